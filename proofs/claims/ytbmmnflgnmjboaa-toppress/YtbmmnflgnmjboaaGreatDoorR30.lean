import Derived.Test.YtbmmnflgnmjboaaGreatDoorR28
set_option maxRecDepth 100000
set_option maxHeartbeats 16000000
open Go.Proofs.Tryz
namespace Go.Proofs.YtbmmnflgnmjboaaGreatDoor
section
open RowKit Shelf
open Ost (Cpu ae dif)
open Dvs (Dv dv aW)
attribute [local go_sem] Oper.semAt_some
theorem ph {fn:Func} {p q u:Tmp} {ty tz:TypeId} (h:fn.results=#[.cell p ty,.cell q tz,.tmp u]) (tmps:Array Value) (P:Program) (w:World) :
  (results fn tmps).run P w=((asAddr (tmps.getD p undef)).run P w).andThen λa w₁=>((loadVar ty a).run P w₁).andThen λv w₂=>((asAddr (tmps.getD q undef)).run P w₂).andThen λb w₃=>((loadVar tz b).run P w₃).andThen λx w₄=>.ok (.tuple #[v,x,tmps.getD u undef]) w₄:=by
 simp only [results,h]
 simp [Sem.run_bind,Result.andThen]
theorem zo (n a b:Int) (w:World):Calls prog 65 #[.int .i64 n,.int .i64 a,.int .i64 b] w λe w'=>e=.returned (.bool (decide (a<=n/\n<=b)))/\w'=w:=by
 by_cases h1:a<=n
 ·have Ha:decide (a<=n)=true:=Qc h1;have HE:Hid (decide (a<=n/\n<=b)=decide (n<=b)):=by unfold Hid;by_cases h2:n<=b <;> simp [h1,h2]
  rw [HE.out];clear h1
  go_enter func65,ntmps65
  go_wp2
  go_ret;exact ⟨rfl,rfl⟩
 ·have Ha:decide (a<=n)=false:=Q7 h1;have HE:Hid (decide (a<=n/\n<=b)=false):=Q7 λh=>h1 h.1
  rw [HE.out];clear h1
  go_enter func65,ntmps65
  go_wp2
  go_ret;exact ⟨rfl,rfl⟩
theorem LM (l:List Cpu):∀ k,eI l k=Ol.dI l k:=by
 intro k
 induction k with
 | zero=>rfl
 | succ k ih=>rw [eI,Ol.dI,ih]
theorem sG {l:List Cpu} (h:Ost.fault l=0):0<l.length:=by
 apply Qt;intro h0
 have:l=[]:=List.length_eq_zero_iff.1 (by omega)
 subst this;exact absurd h (by decide)
abbrev dm:=(.cells #[.pointer none,.int .u64 0,.int .u8 0,.int .i64 0,.int .i64 0] 95:Obj)
theorem LN {W:World} {tb tg tc B:Nat} {l:List Cpu} (h:ba W tb tg 0 tc l) (h0:0<l.length) (h1:W.heap[B+1]?=some (dm)) (h2:W.heap[B+2]?=some (.cells #[.int .u64 0,.pointer none] 98)):(tb≠B+1/\tb≠B+2)/\(tg≠B+1/\tg≠B+2):=by
 have a1:W.cell? ⟨B+1,0,none⟩=some (.pointer none):=aa h1 0;have a2:W.cell? ⟨B+2,0,none⟩=some (.int .u64 0):=aa h2 0;have c1:=h.cell;have c2:=(h.cells 0 h0).1;refine ⟨⟨λe=>?_,λe=>?_⟩,λe=>?_,λe=>?_⟩
 ·rw [e,a1] at c1;cases c1
 ·rw [e,a2] at c1;cases c1
 ·rw [e] at c2;have c2:W.cell? ⟨B+1,0,none⟩=_:=c2;rw [a1] at c2;cases c2
 ·rw [e] at c2;have c2:W.cell? ⟨B+2,0,none⟩=_:=c2;rw [a2] at c2;cases c2
theorem jO {W W':World} {tb b o c:Nat} {l:List Cpu} (h:ba W tb b o c l) (h1:W'.heap[tb]?=W.heap[tb]?) (h2:W'.heap[b]?=W.heap[b]?) (hs:W.heap.size<=W'.heap.size):ba W' tb b o c l:=
 ⟨(World.cell?_of_block (a:=⟨tb,0,none⟩) h1).trans h.cell,λk hk=>⟨(World.cell?_of_block (a:=⟨b,o+k*3,none⟩) h2).trans (h.cells k hk).1,(World.cell?_of_block (a:=⟨b,o+k*3+1,none⟩) h2).trans (h.cells k hk).2.1,(World.cell?_of_block (a:=⟨b,o+k*3+2,none⟩) h2).trans (h.cells k hk).2.2⟩,Q1 h.lt hs,h.len⟩
theorem lE {W W':World} {pb db:Nat} {ao:Option Addr} {c:Nat} {ds:List Dv} {us:Nat->Bool} (h:ak W pb db ao c ds us) (h1:W'.heap[pb]?=W.heap[pb]?) (h2:0<ds.length->W'.heap[db]?=W.heap[db]?) (hs:W.heap.size<=W'.heap.size):ak W' pb db ao c ds us:=by
 have cc:∀ j,W'.cell? ⟨pb,j,none⟩=W.cell? ⟨pb,j,none⟩:=λj=>World.cell?_of_block (a:=⟨pb,j,none⟩) h1
 have ff:∀ j,W'.frozen? ⟨pb,j,none⟩=W.frozen? ⟨pb,j,none⟩:=λj=>by simp [World.frozen?,h1]
 refine ⟨by rw [cc];exact h.row,λh0=>⟨(h.at0 h0).1,(h.at0 h0).2.1,Q1 (h.at0 h0).2.2 hs⟩,λk hk=>?_,λj hj=>⟨by rw [cc];exact (h.used j hj).1,by rw [ff];exact (h.used j hj).2⟩⟩;have h3:=h2 (by omega);have dd:∀ j,W'.cell? ⟨db,j,none⟩=W.cell? ⟨db,j,none⟩:=λj=>World.cell?_of_block (a:=⟨db,j,none⟩) h3
 have fd:∀ j,W'.frozen? ⟨db,j,none⟩=W.frozen? ⟨db,j,none⟩:=λj=>by simp [World.frozen?,h3]
 rw [dd,dd,dd,fd];exact h.cells k hk
structure LO (w w':World) (c:Ol.Cf) (e:Ending):Prop where
 bad:Ol.b6 c≠0->e=.returned (.tuple #[.agg #[.pointer none,.int .u64 0,.int .u8 0,.int .i64 0,.int .i64 0],.agg #[.int .u64 0,.pointer none],au (Ol.b6 c)])
 good:Ol.b6 c=0->∃ tb b cc pb db ao pc,e=.returned (.tuple #[mV (Ol.cz c) tb,sV ⟨(Ol.cz c).op,c.ds,λ_=>false⟩ pb,.nilIface])/\cK w' tb b 0 cc (Ol.cz c)/\dj w' pb db ao pc ⟨(Ol.cz c).op,c.ds,λ_=>false⟩/\w.heap.size<=pb/\(0<c.ds.length->w.heap.size<=db)
 below:Below w.heap.size w w'
abbrev jP:=λ(x0:Option Addr) (x1:Ol.Cf) (x2:Nat) (x3:Option Addr) (x4:Nat)=>(.cells #[.slice x0 x1.l.length x2,.int .u64 (x1.keep:Nat),.int .i64 x1.nb,.slice x3 x1.ds.length x4,.int .i64 x1.pol] 27:Obj)
abbrev lF:=λ(x0:Dvs.Dv) (x1:Nat)=>(.cells #[.string x0.kind,.int .i64 (x1:Nat),.bool x0.sick] 87:Obj)
abbrev zp:=λ(B:Nat) (c:Ol.Cf) (w':World)=>w'.cell? ⟨B,1,none⟩=some (.int .u64 (c.keep:Nat))/\w'.cell? ⟨B,2,none⟩=some (.int .i64 c.nb)/\w'.cell? ⟨B,4,none⟩=some (.int .i64 c.pol)
theorem LP (c:Ol.Cf) (v1 v2:Value) (g o:Nat) (w:World) (h1:eH w v1 c.l) (h2:cU w v2 g o c.ds) (hk:c.keep<18446744073709551616) :
  Calls prog 33 #[.agg #[v1,.int .u64 (c.keep:Nat),.int .i64 c.nb,v2,.int .i64 c.pol]] w λe w'=>LO w w' c e:=by
 obtain ⟨ca,cc,h6⟩:∃ ca cc,v1=.slice ca c.l.length cc:=by
  rcases id h1 with ⟨hl,ao,q,rfl⟩|⟨b,o,q,rfl,_⟩
  ·exact ⟨ao,q,by rw [hl];rfl⟩
  ·exact ⟨_,q,rfl⟩
 subst h6;obtain ⟨da,dc,h8,_⟩:=id h2;subst h8;have Jc:=qI ((((Q0 w.heap.size w).alloc (lR) (jP ca c cc da dc)).alloc (by simp) (dm)).alloc (by simp;omega) (.cells #[.int .u64 0,.pointer none] 98));have sz:(((w.alloc (jP ca c cc da dc)).alloc (dm)).alloc (.cells #[.int .u64 0,.pointer none] 98)).heap.size=w.heap.size+3:=by simp
 have Je:=qI (bj (bj (aD w (jP ca c cc da dc) rfl) (dm)) (.cells #[.int .u64 0,.pointer none] 98));have Jr:=qI (bj (aD (w.alloc (jP ca c cc da dc)) (dm) (n:=w.heap.size+1) (by simp)) (.cells #[.int .u64 0,.pointer none] 98));have Jo:=qI (aD ((w.alloc (jP ca c cc da dc)).alloc (dm)) (.cells #[.int .u64 0,.pointer none] 98) (n:=w.heap.size+2) (by simp));have H7:=qI (tN ca cc c.l (((w.alloc (jP ca c cc da dc)).alloc (dm)).alloc (.cells #[.int .u64 0,.pointer none] 98)) (h1.below Jc.out));have HD:=qI h2;have u0:(((w.alloc (jP ca c cc da dc)).alloc (dm)).alloc (.cells #[.int .u64 0,.pointer none] 98)).cell? ⟨w.heap.size,0,none⟩=some (.slice ca c.l.length cc):=aa Je.out 0;clear h1 h2
 go_enter func33,ntmps33
 go_wp2_with fail
 generalize (((w.alloc (jP ca c cc da dc)).alloc (dm)).alloc (.cells #[.int .u64 0,.pointer none] 98))=U at *;generalize hB:w.heap.size=B at *;refine H7.out.mono ?_;rintro e W1 ⟨Hi,HQ,HF⟩;have HC:=qI (show Below w.heap.size w W1 by rw [hB];exact Jc.out.trans (HF.mono (by omega)));have JW:=HF.size;have hv:=qI ((HF.block B (by omega)).trans Je.out);have Hr:=qI ((HF.block (B+1) (by omega)).trans Jr.out);have HW:=qI ((HF.block (B+2) (by omega)).trans Jo.out);clear HF u0 H7
 by_cases hf:Ost.fault c.l=0
 ·obtain ⟨tb,tg,tc,rfl,HU⟩:=Hi hf;have Hp:=qI HU;have He:=qI (BQ hf);have h7:=qI HU.len;clear Hi HQ HU;obtain ⟨bad,H8⟩:∃ x:Bool,x=(!decide (c.keep &&& ae az c.l=c.keep) || (!decide (0<=c.nb/\c.nb<=1125899906842624) || !decide (0<=c.pol/\c.pol<=3))):=⟨_,rfl⟩;have Hg:=qI H8;clear H8;have HH:ae az c.l<18446744073709551616:=Ost.eW az c.l c.l.length h7.out;have HM:=qI λ(W:World)=>js c.keep (ae az c.l) W hk HH;have HX:=qI λ(W:World)=>zo c.nb 0 1125899906842624 W;have ho:=qI λ(W:World)=>zo c.pol 0 3 W
  go_upto_region 4 with fail
  have Hf:Hid (∀ W,Below W1.heap.size W1 W->(zp B c) W):=λW hb=>⟨aa ((hb.block B (by omega)).trans hv.out) 1,aa ((hb.block B (by omega)).trans hv.out) 2,aa ((hb.block B (by omega)).trans hv.out) 4⟩
  go_cut [39] (λb39 wc=>b39=.bool bad/\Below W1.heap.size W1 wc)
  case first=>
   have Hb:Hid (Below W1.heap.size W1 W1.drew):=a6 (Q0 _ _)
   by_cases q1:c.keep &&& ae az c.l=c.keep
   ·have d1:decide (c.keep &&& ae az c.l=c.keep)=true:=Qc q1;simp only [d1] at HM
    by_cases q2:0<=c.nb/\c.nb<=1125899906842624
    ·have d2:decide (0<=c.nb/\c.nb<=1125899906842624)=true:=Qc q2;simp only [d2] at HX
     by_cases q3:0<=c.pol/\c.pol<=3
     ·have d3:decide (0<=c.pol/\c.pol<=3)=true:=Qc q3;simp only [d3] at ho;have HN:Hid (bad=false):=by unfold Hid;rw [Hg.out,d1,d2,d3];rfl
      clear q1 q2 q3 d1 d2 d3;refine Qo (by kernel_rfl) (Hf.out _ Hb.out) λhHeld=>?_;generalize W1.drew=V at *;refine tk 0 ?_;refine tk 1 ?_;refine tk 2 ?_;refine rd 3 λK hK=>?_;go_simp
      go_wp2_with fail
      refine (gu tb tg 0 tc c.l V (Hp.out.below Hb.out)).mono ?_;rintro e W2 ⟨rfl,Hj⟩;have Ha:=qI (Hb.out.trans (Hj.mono Hb.out.size));clear Hj
      go_wp2
      refine hK.out _ _ (Hf.out _ Ha.out) λhHeld=>?_;clear hK K;refine rd 4 λK hK=>?_;go_simp
      go_wp2_with fail
      refine (HM.out _).mono ?_;rintro e wz ⟨rfl,rfl⟩
      go_wp2
      refine hK.out _ _ (Hf.out _ Ha.out) λhHeld=>?_;clear hK K;refine tk 5 ?_;refine tk 6 ?_;refine tk 7 ?_;refine tk 8 ?_;refine rd 9 λK hK=>?_;go_simp
      go_wp2_with fail
      refine (HX.out _).mono ?_;rintro e wz ⟨rfl,rfl⟩
      go_wp2
      refine hK.out _ _ (Hf.out _ Ha.out) λhHeld=>?_;clear hK K;refine tk 10 ?_;refine tk 11 ?_;refine tk 12 ?_;refine tk 13 ?_;refine tk 14 ?_;refine rd 15 λK hK=>?_;go_simp
      go_wp2_with fail
      refine (ho.out _).mono ?_;rintro e wz ⟨rfl,rfl⟩
      go_wp2
      refine hK.out _ _ (Hf.out _ Ha.out) λhHeld=>?_;clear hK K;refine tk 16 ?_;refine tk 17 ?_;refine Qn (by kernel_rfl) ?_ _;clear hHeld
      go_wp2
      go_meet
      exact ⟨by rw [HN.out],Ha.out⟩
     ·have d3:decide (0<=c.pol/\c.pol<=3)=false:=Q7 q3;simp only [d3] at ho;have HN:Hid (bad=true):=by unfold Hid;rw [Hg.out,d1,d2,d3];rfl
      clear q1 q2 q3 d1 d2 d3;refine Qo (by kernel_rfl) (Hf.out _ Hb.out) λhHeld=>?_;generalize W1.drew=V at *;refine tk 0 ?_;refine tk 1 ?_;refine tk 2 ?_;refine rd 3 λK hK=>?_;go_simp
      go_wp2_with fail
      refine (gu tb tg 0 tc c.l V (Hp.out.below Hb.out)).mono ?_;rintro e W2 ⟨rfl,Hj⟩;have Ha:=qI (Hb.out.trans (Hj.mono Hb.out.size));clear Hj
      go_wp2
      refine hK.out _ _ (Hf.out _ Ha.out) λhHeld=>?_;clear hK K;refine rd 4 λK hK=>?_;go_simp
      go_wp2_with fail
      refine (HM.out _).mono ?_;rintro e wz ⟨rfl,rfl⟩
      go_wp2
      refine hK.out _ _ (Hf.out _ Ha.out) λhHeld=>?_;clear hK K;refine tk 5 ?_;refine tk 6 ?_;refine tk 7 ?_;refine tk 8 ?_;refine rd 9 λK hK=>?_;go_simp
      go_wp2_with fail
      refine (HX.out _).mono ?_;rintro e wz ⟨rfl,rfl⟩
      go_wp2
      refine hK.out _ _ (Hf.out _ Ha.out) λhHeld=>?_;clear hK K;refine tk 10 ?_;refine tk 11 ?_;refine tk 12 ?_;refine tk 13 ?_;refine tk 14 ?_;refine rd 15 λK hK=>?_;go_simp
      go_wp2_with fail
      refine (ho.out _).mono ?_;rintro e wz ⟨rfl,rfl⟩
      go_wp2
      refine hK.out _ _ (Hf.out _ Ha.out) λhHeld=>?_;clear hK K;refine tk 16 ?_;refine tk 17 ?_;refine Qn (by kernel_rfl) ?_ _;clear hHeld
      go_wp2
      go_meet
      exact ⟨by rw [HN.out],Ha.out⟩
    ·have d2:decide (0<=c.nb/\c.nb<=1125899906842624)=false:=Q7 q2;simp only [d2] at HX;have HN:Hid (bad=true):=by unfold Hid;rw [Hg.out,d1,d2];rfl
     clear q1 q2 d1 d2;refine Qo (by kernel_rfl) (Hf.out _ Hb.out) λhHeld=>?_;generalize W1.drew=V at *;refine tk 0 ?_;refine tk 1 ?_;refine tk 2 ?_;refine rd 3 λK hK=>?_;go_simp
     go_wp2_with fail
     refine (gu tb tg 0 tc c.l V (Hp.out.below Hb.out)).mono ?_;rintro e W2 ⟨rfl,Hj⟩;have Ha:=qI (Hb.out.trans (Hj.mono Hb.out.size));clear Hj
     go_wp2
     refine hK.out _ _ (Hf.out _ Ha.out) λhHeld=>?_;clear hK K;refine rd 4 λK hK=>?_;go_simp
     go_wp2_with fail
     refine (HM.out _).mono ?_;rintro e wz ⟨rfl,rfl⟩
     go_wp2
     refine hK.out _ _ (Hf.out _ Ha.out) λhHeld=>?_;clear hK K;refine tk 5 ?_;refine tk 6 ?_;refine tk 7 ?_;refine tk 8 ?_;refine rd 9 λK hK=>?_;go_simp
     go_wp2_with fail
     refine (HX.out _).mono ?_;rintro e wz ⟨rfl,rfl⟩
     go_wp2
     refine hK.out _ _ (Hf.out _ Ha.out) λhHeld=>?_;clear hK K;refine tk 10 ?_;refine tk 11 ?_;refine tk 12 ?_;refine ts 13 ?_;refine ts 14 ?_;refine ts 15 ?_;refine ts 16 ?_;refine tk 17 ?_;refine Qn (by kernel_rfl) ?_ _;clear hHeld
     go_wp2
     go_meet
     exact ⟨by rw [HN.out],Ha.out⟩
   ·have d1:decide (c.keep &&& ae az c.l=c.keep)=false:=Q7 q1;simp only [d1] at HM;have HN:Hid (bad=true):=by unfold Hid;rw [Hg.out,d1];rfl
    clear q1 d1;refine Qo (by kernel_rfl) (Hf.out _ Hb.out) λhHeld=>?_;generalize W1.drew=V at *;refine tk 0 ?_;refine tk 1 ?_;refine tk 2 ?_;refine rd 3 λK hK=>?_;go_simp
    go_wp2_with fail
    refine (gu tb tg 0 tc c.l V (Hp.out.below Hb.out)).mono ?_;rintro e W2 ⟨rfl,Hj⟩;have Ha:=qI (Hb.out.trans (Hj.mono Hb.out.size));clear Hj
    go_wp2
    refine hK.out _ _ (Hf.out _ Ha.out) λhHeld=>?_;clear hK K;refine rd 4 λK hK=>?_;go_simp
    go_wp2_with fail
    refine (HM.out _).mono ?_;rintro e wz ⟨rfl,rfl⟩
    go_wp2
    refine hK.out _ _ (Hf.out _ Ha.out) λhHeld=>?_;clear hK K;refine tk 5 ?_;refine tk 6 ?_;refine ts 7 ?_;refine ts 8 ?_;refine ts 9 ?_;refine ts 10 ?_;refine tk 11 ?_;refine tk 12 ?_;refine ts 13 ?_;refine ts 14 ?_;refine ts 15 ?_;refine ts 16 ?_;refine tk 17 ?_;refine Qn (by kernel_rfl) ?_ _;clear hHeld
    go_wp2
    go_meet
    exact ⟨by rw [HN.out],Ha.out⟩
  case rest=>
   obtain ⟨rfl,HT⟩:=hcut;have hX:=qI (HC.out.trans (HT.mono (by omega)));have JQ:=HT.size;have Jb:=qI ((HT.block B (by omega)).trans hv.out);have Hs:=qI ((HT.block (B+1) (by omega)).trans Hr.out);have HY:=qI ((HT.block (B+2) (by omega)).trans HW.out);have JN:=qI (Hp.out.below HT);have hz:=qI hf;clear HT hf HM HX ho Hf Hp
   rcases two bad with hm|hm
   ·have HB:Hid (Ol.b6 c=1):=by
     unfold Hid Ol.b6;rw [if_neg λh=>h hz.out,if_pos];rw [hm] at Hg;have hb:=Hg.out
     by_cases q1:c.keep &&& ae az c.l=c.keep
     ·by_cases q2:0<=c.nb/\c.nb<=1125899906842624
      ·by_cases q3:0<=c.pol/\c.pol<=3
       ·rw [Qc q1,Qc q2,Qc q3] at hb;cases hb
       ·exact .inr (.inr q3)
      ·exact .inr (.inl q2)
     ·exact .inl q1
    subst hm;have a0_2:wc.cell? ⟨B+1,0,none⟩=some (.pointer none):=aa Hs.out 0;have fa0_2:=ai Hs.out 0;have a1_2:wc.cell? ⟨B+1,1,none⟩=some (.int .u64 0):=aa Hs.out 1;have fa1_2:=ai Hs.out 1;have a2_2:wc.cell? ⟨B+1,2,none⟩=some (.int .u8 0):=aa Hs.out 2;have fa2_2:=ai Hs.out 2;have a3_2:wc.cell? ⟨B+1,3,none⟩=some (.int .i64 0):=aa Hs.out 3;have fa3_2:=ai Hs.out 3;have a4_2:wc.cell? ⟨B+1,4,none⟩=some (.int .i64 0):=aa Hs.out 4;have fa4_2:=ai Hs.out 4;have b0_2:wc.cell? ⟨B+2,0,none⟩=some (.int .u64 0):=aa HY.out 0;have fb0_2:=ai HY.out 0;have b1_2:wc.cell? ⟨B+2,1,none⟩=some (.pointer none):=aa HY.out 1;have fb1_2:=ai HY.out 1;have Hv:Hid ((((((((wc.setCell ⟨B+1,0,none⟩ (.pointer none)).setCell ⟨B+1,1,none⟩ (.int .u64 0)).setCell ⟨B+1,2,none⟩ (.int .u8 0)).setCell ⟨B+1,3,none⟩ (.int .i64 0)).setCell ⟨B+1,4,none⟩ (.int .i64 0)).setCell ⟨B+2,0,none⟩ (.int .u64 0)).setCell ⟨B+2,1,none⟩ (.pointer none)).heap[B+1]?=_):=(set_other (by omega)).trans ((set_other (by omega)).trans (ah (ah (ah (ah (ah Hs.out 0 (.pointer none)) 1 (.int .u64 0)) 2 (.int .u8 0)) 3 (.int .i64 0)) 4 (.int .i64 0)));have hW:(((((wc.setCell ⟨B+1,0,none⟩ (.pointer none)).setCell ⟨B+1,1,none⟩ (.int .u64 0)).setCell ⟨B+1,2,none⟩ (.int .u8 0)).setCell ⟨B+1,3,none⟩ (.int .i64 0)).setCell ⟨B+1,4,none⟩ (.int .i64 0)).heap[B+2]?=wc.heap[B+2]?:=(set_other (by omega)).trans ((set_other (by omega)).trans ((set_other (by omega)).trans ((set_other (by omega)).trans (set_other (by omega)))));have hs:=qI (ah (ah (hW.trans HY.out) 0 (.int .u64 0)) 1 (.pointer none));have h3:=qI (((((((hX.out.setCell (p:=⟨B+1,0,none⟩) (by show w.heap.size<=B+1;omega) (.pointer none)).setCell (p:=⟨B+1,1,none⟩) (by show w.heap.size<=B+1;omega) (.int .u64 0)).setCell (p:=⟨B+1,2,none⟩) (by show w.heap.size<=B+1;omega) (.int .u8 0)).setCell (p:=⟨B+1,3,none⟩) (by show w.heap.size<=B+1;omega) (.int .i64 0)).setCell (p:=⟨B+1,4,none⟩) (by show w.heap.size<=B+1;omega) (.int .i64 0)).setCell (p:=⟨B+2,0,none⟩) (by show w.heap.size<=B+2;omega) (.int .u64 0)).setCell (p:=⟨B+2,1,none⟩) (by show w.heap.size<=B+2;omega) (.pointer none))
    go_wp2_with fail
    generalize (((((((wc.setCell ⟨B+1,0,none⟩ (.pointer none)).setCell ⟨B+1,1,none⟩ (.int .u64 0)).setCell ⟨B+1,2,none⟩ (.int .u8 0)).setCell ⟨B+1,3,none⟩ (.int .i64 0)).setCell ⟨B+1,4,none⟩ (.int .i64 0)).setCell ⟨B+2,0,none⟩ (.int .u64 0)).setCell ⟨B+2,1,none⟩ (.pointer none))=WZ at *;(try simp only [Exit.inBlock,Exit.then]);refine bodyPost_ret (v:=.tuple #[.agg #[.pointer none,.int .u64 0,.int .u8 0,.int .i64 0,.int .i64 0],.agg #[.int .u64 0,.pointer none],.iface 121 (.int .i64 1)]) ?_ rfl ⟨(λ_=>by rw [HB.out];rfl),(λh=>by rw [HB.out] at h;cases h),h3.out⟩;have r0:WZ.cell? ⟨B+1,0,none⟩=some (.pointer none):=aa Hv.out 0;have r1:WZ.cell? ⟨B+1,1,none⟩=some (.int .u64 0):=aa Hv.out 1;have r2:WZ.cell? ⟨B+1,2,none⟩=some (.int .u8 0):=aa Hv.out 2;have r3:WZ.cell? ⟨B+1,3,none⟩=some (.int .i64 0):=aa Hv.out 3;have r4:WZ.cell? ⟨B+1,4,none⟩=some (.int .i64 0):=aa Hv.out 4;have s0:WZ.cell? ⟨B+2,0,none⟩=some (.int .u64 0):=aa hs.out 0;have s1:WZ.cell? ⟨B+2,1,none⟩=some (.pointer none):=aa hs.out 1;rw [ph rfl];clear a0_2 fa0_2 a1_2 fa1_2 a2_2 fa2_2 a3_2 fa3_2 a4_2 fa4_2 b0_2 fb0_2 b1_2 fb1_2;go_simp
   ·have HG:Hid ((c.keep &&& ae az c.l=c.keep)/\(0<=c.nb/\c.nb<=1125899906842624)/\(0<=c.pol/\c.pol<=3)):=by
     unfold Hid;rw [hm] at Hg;have hb:=Hg.out
     by_cases q1:c.keep &&& ae az c.l=c.keep
     ·by_cases q2:0<=c.nb/\c.nb<=1125899906842624
      ·by_cases q3:0<=c.pol/\c.pol<=3
       ·exact ⟨q1,q2,q3⟩
       ·rw [Qc q1,Qc q2,Q7 q3] at hb;cases hb
      ·rw [Qc q1,Q7 q2] at hb;cases hb
     ·rw [Q7 q1] at hb;cases hb
    have HB:Hid (Ol.b6 c=((Dvs.fault c.ds:Nat):Int)):=by
     unfold Hid Ol.b6;rw [if_neg λh=>h hz.out,if_neg (λh=>by rcases h with h|h|h;exact h HG.out.1;exact h HG.out.2.1;exact h HG.out.2.2)]
    subst hm;have e3:wc.cell? ⟨B,3,none⟩=some (.slice da c.ds.length dc):=aa Jb.out 3;have Jh:=qI (uI (.slice da c.ds.length dc) g o c.ds wc (HD.out.le (aq.of_below hX.out)))
    go_wp2_with fail
    refine Jh.out.mono ?_;rintro e W3 ⟨Hi,HQ,HR⟩;have ht:=qI (hX.out.trans (HR.mono (by omega)));have JY:=HR.size;have hA:=qI ((HR.block B (by omega)).trans Jb.out);have Hm:=qI ((HR.block (B+1) (by omega)).trans Hs.out);have HL:=qI ((HR.block (B+2) (by omega)).trans HY.out);have HJ:=qI (JN.out.below HR);clear HR e3 Jh
    by_cases hfd:Dvs.fault c.ds=0
    ·obtain ⟨pp,rfl,pb,db,pao,pc,rfl,Hk,hM,HP⟩:=Hi hfd;rw [hfd] at HB;have hi:=qI Hk;have hD:=qI (Dvs.gW hfd);have Jd:Hid (w.heap.size<=pb/\(0<c.ds.length->w.heap.size<=db)):=⟨by omega,λh0=>by have:=HP h0;omega⟩;have JT:=Hk.lt;have JO:B+3<=pb:=by omega
     have hp:Hid (0<c.ds.length->B+3<=db):=λh0=>by have:=HP h0;omega
     have hH:Hid (0<c.ds.length->db<W3.heap.size):=λh0=>(Hk.at0 h0).2.2
     clear Hi HQ Hk hM HP hfd;dsimp only;rw [show au (((0:Nat)):Int)=.nilIface from rfl]
     go_upto_region 9 with fail
     have JE:=iI (ae az c.l) c.keep HH hk;have Hq:Hid (∀ W,Below W3.heap.size W3 W->(zp B c) W):=λW hb=>⟨aa ((hb.block B (by omega)).trans hA.out) 1,aa ((hb.block B (by omega)).trans hA.out) 2,aa ((hb.block B (by omega)).trans hA.out) 4⟩
     go_cut [8] (λp8 wc=>∃ Bm,p8=.pointer (some ⟨Bm,0,none⟩)/\wc.heap[Bm]?=some (.cells #[.pointer (some ⟨tb,0,none⟩),.int .u64 (dif (ae az c.l) c.keep:Nat),.int .u8 (eI c.l c.l.length:Nat),.int .i64 c.nb,.int .i64 c.pol] 95 (0,0))/\W3.heap.size<=Bm/\Below W3.heap.size W3 wc)
     case first=>
      have Hb:Hid (Below W3.heap.size W3 W3.drew):=a6 (Q0 _ _);refine Qo (by kernel_rfl) (Hq.out _ Hb.out) λhHeld=>?_;generalize W3.drew=V at *;refine tk 0 ?_;refine tk 1 ?_;refine tk 3 ?_;refine tk 4 ?_;refine tk 6 ?_;refine tk 8 ?_;refine tk 9 ?_;refine tk 10 ?_;refine tk 11 ?_;refine wpAnyH_ready (rs:=[2,13]) (by kernel_rfl) (by simp) (AllReadyH.cons rfl (λK hK=>?_) (AllReadyH.cons rfl (λK hK=>?_) AllReadyH.nil))
      ·go_simp
       go_wp2_with fail
       refine (gu tb tg 0 tc c.l V (HJ.out.below Hb.out)).mono ?_;rintro e W1 ⟨rfl,HF⟩;have HC:=qI (Hb.out.trans (HF.mono Hb.out.size));clear HF
       go_wp2
       refine hK.out _ _ (Hq.out _ HC.out) λhHeld=>?_;clear hK K;refine tk 5 ?_;refine wpAnyH_ready (rs:=[7,13]) (by kernel_rfl) (by simp) (AllReadyH.cons rfl (λK hK=>?_) (AllReadyH.cons rfl (λK hK=>?_) AllReadyH.nil))
       ·go_simp
        go_wp2_with fail
        refine (pR tb tg 0 tc c.l W1 (HJ.out.below HC.out) He.out).mono ?_;rintro e W2 ⟨rfl,Hj⟩;have Ha:=qI (HC.out.trans (Hj.mono HC.out.size));clear Hj
        go_wp2
        refine hK.out _ _ (Hq.out _ Ha.out) λhHeld=>?_;clear hK K;refine tk 12 ?_;refine rd 13 λK hK=>?_;have ht:=qI (Ha.out.alloc Ha.out.size (dm));have Ht:=qI (aD W2 (dm) rfl);have JF:W2.heap.size<(W2.alloc (dm)).heap.size:=by simp
        have Hl:=Ha.out.size;go_simp
        go_wp2
        refine hK.out _ _ (Hq.out _ ht.out) λhHeld=>?_;clear hK K;generalize W2.alloc (dm)=W3 at *;refine rd 14 λK hK=>?_;have c0_4:W3.cell? ⟨W2.heap.size,0,none⟩=some (.pointer none):=aa Ht.out 0;have f0_4:=ai Ht.out 0;have c1_4:W3.cell? ⟨W2.heap.size,1,none⟩=some (.int .u64 0):=aa Ht.out 1;have f1_4:=ai Ht.out 1;have c2_4:W3.cell? ⟨W2.heap.size,2,none⟩=some (.int .u8 0):=aa Ht.out 2;have f2_4:=ai Ht.out 2;have c3_4:W3.cell? ⟨W2.heap.size,3,none⟩=some (.int .i64 0):=aa Ht.out 3;have f3_4:=ai Ht.out 3;have c4_4:W3.cell? ⟨W2.heap.size,4,none⟩=some (.int .i64 0):=aa Ht.out 4;have f4_4:=ai Ht.out 4;have hG:=qI (((((ht.out.setCell (p:=⟨W2.heap.size,0,none⟩) Hl (.pointer (some ⟨tb,0,none⟩))).setCell (p:=⟨W2.heap.size,1,none⟩) Hl (.int .u64 (dif (ae az c.l) c.keep:Nat))).setCell (p:=⟨W2.heap.size,2,none⟩) Hl (.int .u8 (eI c.l c.l.length:Nat))).setCell (p:=⟨W2.heap.size,3,none⟩) Hl (.int .i64 c.nb)).setCell (p:=⟨W2.heap.size,4,none⟩) Hl (.int .i64 c.pol));have hO:=qI (ah (ah (ah (ah (ah Ht.out 0 (.pointer (some ⟨tb,0,none⟩))) 1 (.int .u64 (dif (ae az c.l) c.keep:Nat))) 2 (.int .u8 (eI c.l c.l.length:Nat))) 3 (.int .i64 c.nb)) 4 (.int .i64 c.pol));go_simp
        go_wp2
        refine hK.out _ _ (Hq.out _ hG.out) λhHeld=>?_;clear hK K;refine Qn (by kernel_rfl) ?_ _
        go_wp2
        go_meet
        exact ⟨_,rfl,hO.out,Hl,hG.out⟩
       ·have HZ:=qI (HC.out.alloc HC.out.size (dm));have hS:=qI (aD W1 (dm) rfl);have hg:W1.heap.size<(W1.alloc (dm)).heap.size:=by simp
        have Hn:=HC.out.size;go_simp
        go_wp2
        refine hK.out _ _ (Hq.out _ HZ.out) λhHeld=>?_;clear hK K;generalize W1.alloc (dm)=W5 at *;refine rd 7 λK hK=>?_;go_simp
        go_wp2_with fail
        refine (pR tb tg 0 tc c.l W5 (HJ.out.below HZ.out) He.out).mono ?_;rintro e W6 ⟨rfl,hF⟩;have Jf:=qI (HZ.out.trans (hF.mono HZ.out.size));have Hw:=qI ((hF.block _ hg).trans hS.out);have Jw:=Q1 hg hF.size;clear hF
        go_wp2
        refine hK.out _ _ (Hq.out _ Jf.out) λhHeld=>?_;clear hK K;refine tk 12 ?_;refine rd 14 λK hK=>?_;have c0_7:W6.cell? ⟨W1.heap.size,0,none⟩=some (.pointer none):=aa Hw.out 0;have f0_7:=ai Hw.out 0;have c1_7:W6.cell? ⟨W1.heap.size,1,none⟩=some (.int .u64 0):=aa Hw.out 1;have f1_7:=ai Hw.out 1;have c2_7:W6.cell? ⟨W1.heap.size,2,none⟩=some (.int .u8 0):=aa Hw.out 2;have f2_7:=ai Hw.out 2;have c3_7:W6.cell? ⟨W1.heap.size,3,none⟩=some (.int .i64 0):=aa Hw.out 3;have f3_7:=ai Hw.out 3;have c4_7:W6.cell? ⟨W1.heap.size,4,none⟩=some (.int .i64 0):=aa Hw.out 4;have f4_7:=ai Hw.out 4;have Jk:=qI (((((Jf.out.setCell (p:=⟨W1.heap.size,0,none⟩) Hn (.pointer (some ⟨tb,0,none⟩))).setCell (p:=⟨W1.heap.size,1,none⟩) Hn (.int .u64 (dif (ae az c.l) c.keep:Nat))).setCell (p:=⟨W1.heap.size,2,none⟩) Hn (.int .u8 (eI c.l c.l.length:Nat))).setCell (p:=⟨W1.heap.size,3,none⟩) Hn (.int .i64 c.nb)).setCell (p:=⟨W1.heap.size,4,none⟩) Hn (.int .i64 c.pol));have JD:=qI (ah (ah (ah (ah (ah Hw.out 0 (.pointer (some ⟨tb,0,none⟩))) 1 (.int .u64 (dif (ae az c.l) c.keep:Nat))) 2 (.int .u8 (eI c.l c.l.length:Nat))) 3 (.int .i64 c.nb)) 4 (.int .i64 c.pol));go_simp
        go_wp2
        refine hK.out _ _ (Hq.out _ Jk.out) λhHeld=>?_;clear hK K;refine Qn (by kernel_rfl) ?_ _
        go_wp2
        go_meet
        exact ⟨_,rfl,JD.out,Hn,Jk.out⟩
      ·have hw:=qI (Hb.out.alloc Hb.out.size (dm));have Js:=qI (aD V (dm) rfl);have ha:V.heap.size<(V.alloc (dm)).heap.size:=by simp
       have Ho:=Hb.out.size;go_simp
       go_wp2
       refine hK.out _ _ (Hq.out _ hw.out) λhHeld=>?_;clear hK K;generalize V.alloc (dm)=W8 at *;refine rd 2 λK hK=>?_;go_simp
       go_wp2_with fail
       refine (gu tb tg 0 tc c.l W8 (HJ.out.below hw.out)).mono ?_;rintro e W9 ⟨rfl,hE⟩;have hx:=qI (hw.out.trans (hE.mono hw.out.size));have JA:=qI ((hE.block _ ha).trans Js.out);have H4:=Q1 ha hE.size;clear hE
       go_wp2
       refine hK.out _ _ (Hq.out _ hx.out) λhHeld=>?_;clear hK K;refine tk 5 ?_;refine rd 7 λK hK=>?_;go_simp
       go_wp2_with fail
       refine (pR tb tg 0 tc c.l W9 (HJ.out.below hx.out) He.out).mono ?_;rintro e W10 ⟨rfl,HI⟩;have hq:=qI (hx.out.trans (HI.mono hx.out.size));have Hc:=qI ((HI.block _ H4).trans JA.out);have Jl:=Q1 H4 HI.size;clear HI
       go_wp2
       refine hK.out _ _ (Hq.out _ hq.out) λhHeld=>?_;clear hK K;refine tk 12 ?_;refine rd 14 λK hK=>?_;have c0_11:W10.cell? ⟨V.heap.size,0,none⟩=some (.pointer none):=aa Hc.out 0;have f0_11:=ai Hc.out 0;have c1_11:W10.cell? ⟨V.heap.size,1,none⟩=some (.int .u64 0):=aa Hc.out 1;have f1_11:=ai Hc.out 1;have c2_11:W10.cell? ⟨V.heap.size,2,none⟩=some (.int .u8 0):=aa Hc.out 2;have f2_11:=ai Hc.out 2;have c3_11:W10.cell? ⟨V.heap.size,3,none⟩=some (.int .i64 0):=aa Hc.out 3;have f3_11:=ai Hc.out 3;have c4_11:W10.cell? ⟨V.heap.size,4,none⟩=some (.int .i64 0):=aa Hc.out 4;have f4_11:=ai Hc.out 4;have H6:=qI (((((hq.out.setCell (p:=⟨V.heap.size,0,none⟩) Ho (.pointer (some ⟨tb,0,none⟩))).setCell (p:=⟨V.heap.size,1,none⟩) Ho (.int .u64 (dif (ae az c.l) c.keep:Nat))).setCell (p:=⟨V.heap.size,2,none⟩) Ho (.int .u8 (eI c.l c.l.length:Nat))).setCell (p:=⟨V.heap.size,3,none⟩) Ho (.int .i64 c.nb)).setCell (p:=⟨V.heap.size,4,none⟩) Ho (.int .i64 c.pol));have hU:=qI (ah (ah (ah (ah (ah Hc.out 0 (.pointer (some ⟨tb,0,none⟩))) 1 (.int .u64 (dif (ae az c.l) c.keep:Nat))) 2 (.int .u8 (eI c.l c.l.length:Nat))) 3 (.int .i64 c.nb)) 4 (.int .i64 c.pol));go_simp
       go_wp2
       refine hK.out _ _ (Hq.out _ H6.out) λhHeld=>?_;clear hK K;refine Qn (by kernel_rfl) ?_ _
       go_wp2
       go_meet
       exact ⟨_,rfl,hU.out,Ho,H6.out⟩
     case rest=>
      obtain ⟨Bm,rfl,HV,Jq,HK⟩:=hcut;have hG:=qI (ht.out.trans (HK.mono (by omega)));have JP:=HK.size;have JM:=qI ((HK.block B (by omega)).trans hA.out);have JC:=qI ((HK.block (B+1) (by omega)).trans Hm.out);have Jy:=qI ((HK.block (B+2) (by omega)).trans HL.out);have JK:=qI (HJ.out.below HK);have hO:=qI (hi.out.below HK);have Jp:Bm<wc.heap.size:=(gS HV).1;have Ji:=qI HV;have hJ:=qI (LM c.l c.l.length);have H1:=qI (Ol.GP (a:=Ol.dI c.l c.l.length) (ds:=c.ds) (Ol.wS (λk hk=>He.out.at hk) c.l.length (lR)).1 ((Ol.wS (λk hk=>He.out.at hk) c.l.length (lR)).2 (sG hz.out)) hD.out.2);rw [hJ.out] at Ji;have d3:wc.cell? ⟨B,3,none⟩=some (.slice da c.ds.length dc):=aa JM.out 3;clear HV HK JE Hq
      go_wp2_with fail
      clear d3
      go_loopw [70] (λi wr=>∃ k:Nat,k<=c.ds.length/\i=.int .i64 k/\wr.heap[Bm]?=some (.cells #[.pointer (some ⟨tb,0,none⟩),.int .u64 (dif (ae az c.l) c.keep:Nat),.int .u8 (Ol.dU (Ol.dI c.l c.l.length) c.ds k:Nat),.int .i64 c.nb,.int .i64 c.pol] 95 (0,0))/\Apart (λj=>j=Bm) wc wr) (λi _=>c.ds.length - (intOf i).toNat)
      case atStart=>exact ⟨0,by omega,rfl,Ji.out,Apart.refl _ _⟩
      case round=>
       obtain ⟨k,JR,rfl,HV,hu⟩:=hrel;have Hh:=qI HV;have HE:=qI hu;have Jx:=hu.size;have JL:=hD.out.1;have hC:Hid (Below w.heap.size w wr):=hu.below hG.out (by omega) (λj hj=>by omega);clear HV hu
       by_cases hlt:k<c.ds.length
       ·obtain ⟨_,_,Jz,Ja⟩:=id HD.out;injection Jz with h6 h8 hv3
        subst h6 hv3;obtain ⟨rfl,JU,h9⟩:=Ja (by omega);obtain ⟨x0,x1,x2⟩:=h9 k hlt;have x0:=(aq.of_below hC.out).cell _ _ _ x0;have x1:=(aq.of_below hC.out).cell _ _ _ x1;have x2:=(aq.of_below hC.out).cell _ _ _ x2;obtain ⟨Jg,JH⟩:=hD.out.2 k hlt;have JS:(k:Int)<(c.ds.length:Int):=by omega
        have Jm:Hid (Ol.dU (Ol.dI c.l c.l.length) c.ds (k+1)=Ol.dU (Ol.dI c.l c.l.length) c.ds k ||| 2 ^ (dv c.ds k).node.toNat):=rfl;have JV:=(H1.out k (by omega)).1;clear h9 Ja h8;generalize dv c.ds k=x at *;obtain ⟨nn,hP⟩:=Int.eq_ofNat_of_zero_le Jg;rw [hP] at x1 JH;rw [hP] at Jm;have JI:=qI (aD wr (lF x nn) rfl);have HO:=qI (bj Hh.out (lF x nn));have a1:(wr.alloc (lF x nn)).cell? ⟨wr.heap.size,1,none⟩=some (.int .i64 (nn:Nat)):=aa JI.out 1;have b2:(wr.alloc (lF x nn)).cell? ⟨Bm,2,none⟩=some (.int .u8 (Ol.dU (Ol.dI c.l c.l.length) c.ds k:Nat)):=aa HO.out 2;have f2:=ai HO.out 2;have Jj:=or8 (Ol.dU (Ol.dI c.l c.l.length) c.ds k) nn (by omega) (by omega);have h4:=qI (HE.out.trans (Apart.alloc _ wr (lF x nn)));clear hP Jg
        go_wp2_with fail
        generalize wr.alloc (lF x nn)=WX at *;have JJ:bits BinOp.or IntKind.u8 ((Ol.dU (Ol.dI c.l c.l.length) c.ds k:Nat):Int) (2 ^ nn % 256)=((Ol.dU (Ol.dI c.l c.l.length) c.ds k ||| 2 ^ nn:Nat):Int):=Jj;clear Jj
        go_region
        go_wp2_with fail
        have HZ:Hid ((WX.setCell ⟨Bm,2,none⟩ (.int .u8 (Ol.dU (Ol.dI c.l c.l.length) c.ds k ||| 2 ^ nn:Nat))).drew.heap[Bm]?=some (.cells #[.pointer (some ⟨tb,0,none⟩),.int .u64 (dif (ae az c.l) c.keep:Nat),.int .u8 (Ol.dU (Ol.dI c.l c.l.length) c.ds k ||| 2 ^ nn:Nat),.int .i64 c.nb,.int .i64 c.pol] 95 (0,0))):=ah HO.out 2 _;have Ju:Hid (Apart (λj=>j=Bm) wc (WX.setCell ⟨Bm,2,none⟩ (.int .u8 (Ol.dU (Ol.dI c.l c.l.length) c.ds k ||| 2 ^ nn:Nat))).drew):=(h4.out.trans (Apart.setCell (K:=λj=>j=Bm) rfl _ _ _)).trans (Apart.drew _ _)
        go_roundw
        case rel=>exact ⟨k+1,by omega,by go_num,by rw [Jm.out];exact HZ.out,Ju.out⟩
        case measure=>simp [intOf];omega
       ·have JB:k=c.ds.length:=by omega
        subst JB;obtain ⟨ndv,HS⟩:∃ x,x=Ol.dU (Ol.dI c.l c.l.length) c.ds c.ds.length:=⟨_,rfl⟩;have Jv:=qI HS;rw [<- HS] at Hh;clear HS;have Hy:=qI ((HE.out.block (B+1) (by omega) (by omega)).trans JC.out);have hc:=qI ((HE.out.block (B+2) (by omega) (by omega)).trans Jy.out);have JX:=HJ.out.tlt;have JZ:=HJ.out.lt;have hy:Hid ((tb≠B+1/\tb≠B+2)/\(tg≠B+1/\tg≠B+2)):=LN HJ.out (sG hz.out) Hm.out HL.out;have Jt:Hid (ba wr tb tg 0 tc c.l):=jO JK.out (HE.out.block tb (by omega) (by omega)) (HE.out.block tg (by omega) (by omega)) Jx;have hS:Hid (ak wr pb db pao pc c.ds λ_=>false):=hO.out.kept (g:=some Bm) ⟨HE.out.os,HE.out.tape,HE.out.output,HE.out.size,λj hj hn=>HE.out.block j hj λe=>hn (by rw [e])⟩ (λe=>by injection e with e;omega) (λh0 e=>by injection e with e;have:=hH.out h0;omega);have m0:wr.cell? ⟨Bm,0,none⟩=some (.pointer (some ⟨tb,0,none⟩)):=aa Hh.out 0;have m1:wr.cell? ⟨Bm,1,none⟩=some (.int .u64 (dif (ae az c.l) c.keep:Nat)):=aa Hh.out 1;have m2:wr.cell? ⟨Bm,2,none⟩=some (.int .u8 (ndv:Nat)):=aa Hh.out 2;have m3:wr.cell? ⟨Bm,3,none⟩=some (.int .i64 c.nb):=aa Hh.out 3;have m4:wr.cell? ⟨Bm,4,none⟩=some (.int .i64 c.pol):=aa Hh.out 4;have a0_5:wr.cell? ⟨B+1,0,none⟩=some (.pointer none):=aa Hy.out 0;have fa0_5:=ai Hy.out 0;have a1_5:wr.cell? ⟨B+1,1,none⟩=some (.int .u64 0):=aa Hy.out 1;have fa1_5:=ai Hy.out 1;have a2_5:wr.cell? ⟨B+1,2,none⟩=some (.int .u8 0):=aa Hy.out 2;have fa2_5:=ai Hy.out 2;have a3_5:wr.cell? ⟨B+1,3,none⟩=some (.int .i64 0):=aa Hy.out 3;have fa3_5:=ai Hy.out 3;have a4_5:wr.cell? ⟨B+1,4,none⟩=some (.int .i64 0):=aa Hy.out 4;have fa4_5:=ai Hy.out 4;have b0_5:wr.cell? ⟨B+1+1,0,none⟩=some (.int .u64 0):=aa hc.out 0;have fb0_5:=ai hc.out 0;have b1_5:wr.cell? ⟨B+1+1,1,none⟩=some (.pointer none):=aa hc.out 1;have fb1_5:=ai hc.out 1;have hr:Hid ((((((((wr.setCell ⟨B+1,0,none⟩ (.pointer (some ⟨tb,0,none⟩))).setCell ⟨B+1,1,none⟩ (.int .u64 (dif (ae az c.l) c.keep:Nat))).setCell ⟨B+1,2,none⟩ (.int .u8 (ndv:Nat))).setCell ⟨B+1,3,none⟩ (.int .i64 c.nb)).setCell ⟨B+1,4,none⟩ (.int .i64 c.pol)).setCell ⟨B+1+1,0,none⟩ (.int .u64 (dif (ae az c.l) c.keep:Nat))).setCell ⟨B+1+1,1,none⟩ (.pointer (some ⟨pb,0,none⟩))).heap[B+1]?=_):=(set_other (by omega)).trans ((set_other (by omega)).trans (ah (ah (ah (ah (ah Hy.out 0 (.pointer (some ⟨tb,0,none⟩))) 1 (.int .u64 (dif (ae az c.l) c.keep:Nat))) 2 (.int .u8 (ndv:Nat))) 3 (.int .i64 c.nb)) 4 (.int .i64 c.pol)));have hY:(((((wr.setCell ⟨B+1,0,none⟩ (.pointer (some ⟨tb,0,none⟩))).setCell ⟨B+1,1,none⟩ (.int .u64 (dif (ae az c.l) c.keep:Nat))).setCell ⟨B+1,2,none⟩ (.int .u8 (ndv:Nat))).setCell ⟨B+1,3,none⟩ (.int .i64 c.nb)).setCell ⟨B+1,4,none⟩ (.int .i64 c.pol)).heap[B+1+1]?=wr.heap[B+1+1]?:=(set_other (by omega)).trans ((set_other (by omega)).trans ((set_other (by omega)).trans ((set_other (by omega)).trans (set_other (by omega)))));have hh:=qI (ah (ah (hY.trans hc.out) 0 (.int .u64 (dif (ae az c.l) c.keep:Nat))) 1 (.pointer (some ⟨pb,0,none⟩)));have H5:=qI (((((((hC.out.setCell (p:=⟨B+1,0,none⟩) (by show w.heap.size<=B+1;omega) (.pointer (some ⟨tb,0,none⟩))).setCell (p:=⟨B+1,1,none⟩) (by show w.heap.size<=B+1;omega) (.int .u64 (dif (ae az c.l) c.keep:Nat))).setCell (p:=⟨B+1,2,none⟩) (by show w.heap.size<=B+1;omega) (.int .u8 (ndv:Nat))).setCell (p:=⟨B+1,3,none⟩) (by show w.heap.size<=B+1;omega) (.int .i64 c.nb)).setCell (p:=⟨B+1,4,none⟩) (by show w.heap.size<=B+1;omega) (.int .i64 c.pol)).setCell (p:=⟨B+1+1,0,none⟩) (by show w.heap.size<=B+1+1;omega) (.int .u64 (dif (ae az c.l) c.keep:Nat))).setCell (p:=⟨B+1+1,1,none⟩) (by show w.heap.size<=B+1+1;omega) (.pointer (some ⟨pb,0,none⟩)));have HA:Hid (∀ j,j≠B+1->j≠B+1+1->(((((((wr.setCell ⟨B+1,0,none⟩ (.pointer (some ⟨tb,0,none⟩))).setCell ⟨B+1,1,none⟩ (.int .u64 (dif (ae az c.l) c.keep:Nat))).setCell ⟨B+1,2,none⟩ (.int .u8 (ndv:Nat))).setCell ⟨B+1,3,none⟩ (.int .i64 c.nb)).setCell ⟨B+1,4,none⟩ (.int .i64 c.pol)).setCell ⟨B+1+1,0,none⟩ (.int .u64 (dif (ae az c.l) c.keep:Nat))).setCell ⟨B+1+1,1,none⟩ (.pointer (some ⟨pb,0,none⟩))).heap[j]?=wr.heap[j]?):=λj h1 h2=>(set_other h2).trans ((set_other h2).trans ((set_other h1).trans ((set_other h1).trans ((set_other h1).trans ((set_other h1).trans (set_other h1))))))
        have hL:(((((((wr.setCell ⟨B+1,0,none⟩ (.pointer (some ⟨tb,0,none⟩))).setCell ⟨B+1,1,none⟩ (.int .u64 (dif (ae az c.l) c.keep:Nat))).setCell ⟨B+1,2,none⟩ (.int .u8 (ndv:Nat))).setCell ⟨B+1,3,none⟩ (.int .i64 c.nb)).setCell ⟨B+1,4,none⟩ (.int .i64 c.pol)).setCell ⟨B+1+1,0,none⟩ (.int .u64 (dif (ae az c.l) c.keep:Nat))).setCell ⟨B+1+1,1,none⟩ (.pointer (some ⟨pb,0,none⟩))).heap.size=wr.heap.size:=by simp
        generalize hZ:(((((((wr.setCell ⟨B+1,0,none⟩ (.pointer (some ⟨tb,0,none⟩))).setCell ⟨B+1,1,none⟩ (.int .u64 (dif (ae az c.l) c.keep:Nat))).setCell ⟨B+1,2,none⟩ (.int .u8 (ndv:Nat))).setCell ⟨B+1,3,none⟩ (.int .i64 c.nb)).setCell ⟨B+1,4,none⟩ (.int .i64 c.pol)).setCell ⟨B+1+1,0,none⟩ (.int .u64 (dif (ae az c.l) c.keep:Nat))).setCell ⟨B+1+1,1,none⟩ (.pointer (some ⟨pb,0,none⟩)))=Z at hr hh H5 HA hL;have JG:Hid (cK Z.drew tb tg 0 tc (Ol.cz c)):=⟨jO Jt.out (HA.out tb hy.out.1.1 hy.out.1.2) (HA.out tg hy.out.2.1 hy.out.2.2) (Nat.le_of_eq hL.symm),He.out,Ost.gX _ HH,by show 1<=Ol.dU _ _ _/\Ol.dU _ _ _<=15;have:=H1.out c.ds.length (lR);omega,HG.out.2.2⟩;have hI:Hid (dj Z.drew pb db pao pc ⟨(Ol.cz c).op,c.ds,λ_=>false⟩):=⟨lE hS.out (HA.out pb (by omega) (by omega)) (λh0=>HA.out db (by have:=hp.out h0;omega) (by have:=hp.out h0;omega)) (Nat.le_of_eq hL.symm),hD.out,Ost.gX _ HH⟩;have hT:Hid (Below w.heap.size w Z.drew):=a6 H5.out;have Hu:Hid (Z.drew.heap[B+1]?=_):=hr.out;have H2:Hid (Z.drew.heap[B+1+1]?=_):=hh.out;have Jn:=qI hZ;clear hZ
        go_wp2_with fail
        go_region
        rw [Jn.out];clear Jn;generalize Z.drew=WZ at *
        go_wp2_with fail
        (try simp only [Exit.inBlock,Exit.then]);refine bodyPost_ret (v:=.tuple #[.agg #[.pointer (some ⟨tb,0,none⟩),.int .u64 (dif (ae az c.l) c.keep:Nat),.int .u8 (ndv:Nat),.int .i64 c.nb,.int .i64 c.pol],.agg #[.int .u64 (dif (ae az c.l) c.keep:Nat),.pointer (some ⟨pb,0,none⟩)],.nilIface]) ?_ rfl ⟨(λh=>absurd HB.out h),(λ_=>⟨tb,tg,tc,pb,db,pao,pc,by rw [Jv.out];rfl,JG.out,hI.out,Jd.out.1,Jd.out.2⟩),hT.out⟩;have r0:WZ.cell? ⟨B+1,0,none⟩=some (.pointer (some ⟨tb,0,none⟩)):=aa Hu.out 0;have r1:WZ.cell? ⟨B+1,1,none⟩=some (.int .u64 (dif (ae az c.l) c.keep:Nat)):=aa Hu.out 1;have r2:WZ.cell? ⟨B+1,2,none⟩=some (.int .u8 (ndv:Nat)):=aa Hu.out 2;have r3:WZ.cell? ⟨B+1,3,none⟩=some (.int .i64 c.nb):=aa Hu.out 3;have r4:WZ.cell? ⟨B+1,4,none⟩=some (.int .i64 c.pol):=aa Hu.out 4;have s0:WZ.cell? ⟨B+1+1,0,none⟩=some (.int .u64 (dif (ae az c.l) c.keep:Nat)):=aa H2.out 0;have s1:WZ.cell? ⟨B+1+1,1,none⟩=some (.pointer (some ⟨pb,0,none⟩)):=aa H2.out 1;rw [ph rfl];clear a0_5 fa0_5 a1_5 fa1_5 a2_5 fa2_5 a3_5 fa3_5 a4_5 fa4_5 b0_5 fb0_5 b1_5 fb1_5;go_simp
    ·have he:=HQ hfd;subst he;have H3:=qI hfd;dsimp only;rw [eh hfd];clear Hi HQ;have a0_3:W3.cell? ⟨B+1,0,none⟩=some (.pointer none):=aa Hm.out 0;have fa0_3:=ai Hm.out 0;have a1_3:W3.cell? ⟨B+1,1,none⟩=some (.int .u64 0):=aa Hm.out 1;have fa1_3:=ai Hm.out 1;have a2_3:W3.cell? ⟨B+1,2,none⟩=some (.int .u8 0):=aa Hm.out 2;have fa2_3:=ai Hm.out 2;have a3_3:W3.cell? ⟨B+1,3,none⟩=some (.int .i64 0):=aa Hm.out 3;have fa3_3:=ai Hm.out 3;have a4_3:W3.cell? ⟨B+1,4,none⟩=some (.int .i64 0):=aa Hm.out 4;have fa4_3:=ai Hm.out 4;have b0_3:W3.cell? ⟨B+2,0,none⟩=some (.int .u64 0):=aa HL.out 0;have fb0_3:=ai HL.out 0;have b1_3:W3.cell? ⟨B+2,1,none⟩=some (.pointer none):=aa HL.out 1;have fb1_3:=ai HL.out 1;have Hz:Hid ((((((((W3.setCell ⟨B+1,0,none⟩ (.pointer none)).setCell ⟨B+1,1,none⟩ (.int .u64 0)).setCell ⟨B+1,2,none⟩ (.int .u8 0)).setCell ⟨B+1,3,none⟩ (.int .i64 0)).setCell ⟨B+1,4,none⟩ (.int .i64 0)).setCell ⟨B+2,0,none⟩ (.int .u64 0)).setCell ⟨B+2,1,none⟩ (.pointer none)).heap[B+1]?=_):=(set_other (by omega)).trans ((set_other (by omega)).trans (ah (ah (ah (ah (ah Hm.out 0 (.pointer none)) 1 (.int .u64 0)) 2 (.int .u8 0)) 3 (.int .i64 0)) 4 (.int .i64 0)));have h5:(((((W3.setCell ⟨B+1,0,none⟩ (.pointer none)).setCell ⟨B+1,1,none⟩ (.int .u64 0)).setCell ⟨B+1,2,none⟩ (.int .u8 0)).setCell ⟨B+1,3,none⟩ (.int .i64 0)).setCell ⟨B+1,4,none⟩ (.int .i64 0)).heap[B+2]?=W3.heap[B+2]?:=(set_other (by omega)).trans ((set_other (by omega)).trans ((set_other (by omega)).trans ((set_other (by omega)).trans (set_other (by omega)))));have H9:=qI (ah (ah (h5.trans HL.out) 0 (.int .u64 0)) 1 (.pointer none));have hR:=qI (((((((ht.out.setCell (p:=⟨B+1,0,none⟩) (by show w.heap.size<=B+1;omega) (.pointer none)).setCell (p:=⟨B+1,1,none⟩) (by show w.heap.size<=B+1;omega) (.int .u64 0)).setCell (p:=⟨B+1,2,none⟩) (by show w.heap.size<=B+1;omega) (.int .u8 0)).setCell (p:=⟨B+1,3,none⟩) (by show w.heap.size<=B+1;omega) (.int .i64 0)).setCell (p:=⟨B+1,4,none⟩) (by show w.heap.size<=B+1;omega) (.int .i64 0)).setCell (p:=⟨B+2,0,none⟩) (by show w.heap.size<=B+2;omega) (.int .u64 0)).setCell (p:=⟨B+2,1,none⟩) (by show w.heap.size<=B+2;omega) (.pointer none));clear hfd;generalize Dvs.fault c.ds=ff at *
     go_wp2_with fail
     generalize (((((((W3.setCell ⟨B+1,0,none⟩ (.pointer none)).setCell ⟨B+1,1,none⟩ (.int .u64 0)).setCell ⟨B+1,2,none⟩ (.int .u8 0)).setCell ⟨B+1,3,none⟩ (.int .i64 0)).setCell ⟨B+1,4,none⟩ (.int .i64 0)).setCell ⟨B+2,0,none⟩ (.int .u64 0)).setCell ⟨B+2,1,none⟩ (.pointer none))=WZ at *;(try simp only [Exit.inBlock,Exit.then]);refine bodyPost_ret (v:=.tuple #[.agg #[.pointer none,.int .u64 0,.int .u8 0,.int .i64 0,.int .i64 0],.agg #[.int .u64 0,.pointer none],.iface 121 (.int .i64 (ff:Nat))]) ?_ rfl ⟨(λ_=>by rw [HB.out,eh H3.out]),(λh=>by rw [HB.out] at h;exact absurd (by omega) H3.out),hR.out⟩;have r0:WZ.cell? ⟨B+1,0,none⟩=some (.pointer none):=aa Hz.out 0;have r1:WZ.cell? ⟨B+1,1,none⟩=some (.int .u64 0):=aa Hz.out 1;have r2:WZ.cell? ⟨B+1,2,none⟩=some (.int .u8 0):=aa Hz.out 2;have r3:WZ.cell? ⟨B+1,3,none⟩=some (.int .i64 0):=aa Hz.out 3;have r4:WZ.cell? ⟨B+1,4,none⟩=some (.int .i64 0):=aa Hz.out 4;have s0:WZ.cell? ⟨B+2,0,none⟩=some (.int .u64 0):=aa H9.out 0;have s1:WZ.cell? ⟨B+2,1,none⟩=some (.pointer none):=aa H9.out 1;rw [ph rfl];clear a0_3 fa0_3 a1_3 fa1_3 a2_3 fa2_3 a3_3 fa3_3 a4_3 fa4_3 b0_3 fb0_3 b1_3 fb1_3;go_simp
 ·have he:=HQ hf;subst he;have HB:Hid (Ol.b6 c=Ost.fault c.l):=by unfold Hid Ol.b6;rw [if_pos hf]
  have H3:=qI hf;clear Hi HQ;have a0_1:W1.cell? ⟨B+1,0,none⟩=some (.pointer none):=aa Hr.out 0;have fa0_1:=ai Hr.out 0;have a1_1:W1.cell? ⟨B+1,1,none⟩=some (.int .u64 0):=aa Hr.out 1;have fa1_1:=ai Hr.out 1;have a2_1:W1.cell? ⟨B+1,2,none⟩=some (.int .u8 0):=aa Hr.out 2;have fa2_1:=ai Hr.out 2;have a3_1:W1.cell? ⟨B+1,3,none⟩=some (.int .i64 0):=aa Hr.out 3;have fa3_1:=ai Hr.out 3;have a4_1:W1.cell? ⟨B+1,4,none⟩=some (.int .i64 0):=aa Hr.out 4;have fa4_1:=ai Hr.out 4;have b0_1:W1.cell? ⟨B+2,0,none⟩=some (.int .u64 0):=aa HW.out 0;have fb0_1:=ai HW.out 0;have b1_1:W1.cell? ⟨B+2,1,none⟩=some (.pointer none):=aa HW.out 1;have fb1_1:=ai HW.out 1;have Hx:Hid ((((((((W1.setCell ⟨B+1,0,none⟩ (.pointer none)).setCell ⟨B+1,1,none⟩ (.int .u64 0)).setCell ⟨B+1,2,none⟩ (.int .u8 0)).setCell ⟨B+1,3,none⟩ (.int .i64 0)).setCell ⟨B+1,4,none⟩ (.int .i64 0)).setCell ⟨B+2,0,none⟩ (.int .u64 0)).setCell ⟨B+2,1,none⟩ (.pointer none)).heap[B+1]?=_):=(set_other (by omega)).trans ((set_other (by omega)).trans (ah (ah (ah (ah (ah Hr.out 0 (.pointer none)) 1 (.int .u64 0)) 2 (.int .u8 0)) 3 (.int .i64 0)) 4 (.int .i64 0)));have hV:(((((W1.setCell ⟨B+1,0,none⟩ (.pointer none)).setCell ⟨B+1,1,none⟩ (.int .u64 0)).setCell ⟨B+1,2,none⟩ (.int .u8 0)).setCell ⟨B+1,3,none⟩ (.int .i64 0)).setCell ⟨B+1,4,none⟩ (.int .i64 0)).heap[B+2]?=W1.heap[B+2]?:=(set_other (by omega)).trans ((set_other (by omega)).trans ((set_other (by omega)).trans ((set_other (by omega)).trans (set_other (by omega)))));have H0:=qI (ah (ah (hV.trans HW.out) 0 (.int .u64 0)) 1 (.pointer none));have hN:=qI (((((((HC.out.setCell (p:=⟨B+1,0,none⟩) (by show w.heap.size<=B+1;omega) (.pointer none)).setCell (p:=⟨B+1,1,none⟩) (by show w.heap.size<=B+1;omega) (.int .u64 0)).setCell (p:=⟨B+1,2,none⟩) (by show w.heap.size<=B+1;omega) (.int .u8 0)).setCell (p:=⟨B+1,3,none⟩) (by show w.heap.size<=B+1;omega) (.int .i64 0)).setCell (p:=⟨B+1,4,none⟩) (by show w.heap.size<=B+1;omega) (.int .i64 0)).setCell (p:=⟨B+2,0,none⟩) (by show w.heap.size<=B+2;omega) (.int .u64 0)).setCell (p:=⟨B+2,1,none⟩) (by show w.heap.size<=B+2;omega) (.pointer none));generalize Ost.fault c.l=ff at *;clear hf
  go_wp2_with fail
  generalize (((((((W1.setCell ⟨B+1,0,none⟩ (.pointer none)).setCell ⟨B+1,1,none⟩ (.int .u64 0)).setCell ⟨B+1,2,none⟩ (.int .u8 0)).setCell ⟨B+1,3,none⟩ (.int .i64 0)).setCell ⟨B+1,4,none⟩ (.int .i64 0)).setCell ⟨B+2,0,none⟩ (.int .u64 0)).setCell ⟨B+2,1,none⟩ (.pointer none))=WZ at *;(try simp only [Exit.inBlock,Exit.then]);refine bodyPost_ret (v:=.tuple #[.agg #[.pointer none,.int .u64 0,.int .u8 0,.int .i64 0,.int .i64 0],.agg #[.int .u64 0,.pointer none],.iface 121 (.int .i64 ff)]) ?_ rfl ⟨λ_=>by rw [HB.out];unfold au;rw [if_neg H3.out],λh=>absurd (HB.out.symm.trans h) H3.out,hN.out⟩;have r0:WZ.cell? ⟨B+1,0,none⟩=some (.pointer none):=aa Hx.out 0;have r1:WZ.cell? ⟨B+1,1,none⟩=some (.int .u64 0):=aa Hx.out 1;have r2:WZ.cell? ⟨B+1,2,none⟩=some (.int .u8 0):=aa Hx.out 2;have r3:WZ.cell? ⟨B+1,3,none⟩=some (.int .i64 0):=aa Hx.out 3;have r4:WZ.cell? ⟨B+1,4,none⟩=some (.int .i64 0):=aa Hx.out 4;have s0:WZ.cell? ⟨B+2,0,none⟩=some (.int .u64 0):=aa H0.out 0;have s1:WZ.cell? ⟨B+2,1,none⟩=some (.pointer none):=aa H0.out 1;rw [ph rfl];clear a0_1 fa0_1 a1_1 fa1_1 a2_1 fa2_1 a3_1 fa3_1 a4_1 fa4_1 b0_1 fb0_1 b1_1 fb1_1;go_simp
end
