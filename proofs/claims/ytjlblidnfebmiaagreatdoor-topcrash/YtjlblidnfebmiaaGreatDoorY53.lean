/- For every config, list of acts and four numbers, TopCrash answers true and leaves its arguments as they were: behind a fall at any step, with anything kept, and another fall meanwhile, a new ostler holds what was held ahead of the act, or what was to be held behind it, and goes on. The conditions are those of the given card. -/
import Derived.Test.YtjlblidnfebmiaaGreatDoorY52
set_option maxRecDepth 100000
set_option maxHeartbeats 16000000
open Go Go.RowKit
open Go.Proofs.Tryz
namespace Go.Proofs.YtjlblidnfebmiaaGreatDoor
namespace topCrash
open Go.ChangeShapes Go.WideShapes Go.ChangeAt Go.RowKit
theorem ZE{H:Type}(enc:TypeId × Value->H){W:World}{base:Nat}(args:Array Value){ds gs:List (DataW H)}{b:List MemPlace}
  (a:∀(j:Nat) t v,Tryz.f3.params[j]?=some t->args[j]?=some v->Value.okWide prog W .any base t v)
  (A:DataW.Whole enc prog Tryz.f3.params.toList Rows.topCrashSpec.vars false W args.toList ds gs b) (n:W.ShapedOpen prog) (hla:laidMet prog Rows.topCrashRow.laid W) :
  Calls pg 3 args W λe W'=>∃v,e=.returned v/\Rows.topCrashSpec.post enc prog Tryz.f3 false true false false W args v W':=by
 have He:=A;obtain⟨p,q,Ha,J,rfl,Hj,Hk⟩:=A;have z:DataW.TrodAll enc prog W 0 (λ_=>true) true Tryz.f3.params.toList args.toList ds p:=Ha;rw[params3] at z a;obtain⟨v0,Y,d0,L,p0,q0,Hb,rfl,rfl,E,r0⟩:=trodAll_cons z;obtain⟨y,HD,d1,HE,R,q1,rfl,rfl,rfl,F,r1⟩:=trodAll_cons r0;obtain⟨v2,HC,d2,V,p2,q2,rfl,rfl,rfl,T,r2⟩:=trodAll_cons r1;obtain⟨v3,M,d3,K,p3,q3,rfl,rfl,rfl,G,P⟩:=trodAll_cons r2;obtain⟨v4,HB,d4,HA,p4,q4,rfl,rfl,rfl,h4,U⟩:=trodAll_cons P;obtain⟨v5,S,d5,I,p5,q5,rfl,rfl,rfl,Q,N⟩:=trodAll_cons U;obtain⟨rfl,rfl,rfl⟩:=trodAll_nil N;obtain rfl:args=#[v0,y,v2,v3,v4,v5]:=by cases args;simp_all
 obtain⟨rfl,rfl⟩:=trodVars_none J;have w:=E;have o:∀x∈p0,x.block<W.heap.size:=by obtain⟨m,u⟩:=w;exact DataW.trod_lt m _ _ _ u
 obtain⟨c0,d,s,l,r,rfl,Hf,Hi,Hh⟩:=UJ (a 0 27 v0 rfl rfl) E;obtain⟨a1,C,D,rfl⟩:=okWide_slice underlying28 (a 1 28 y rfl rfl);have B:=F;have f:∀x∈R,x.block<W.heap.size:=by obtain⟨m,u⟩:=B;exact DataW.trod_lt m _ _ _ u
 obtain⟨f1,Hc⟩:=F;obtain⟨X,Hg⟩:=Wo Hc;obtain⟨n2,rfl,rfl,rfl,c⟩:=open_int underlying3 (a 2 3 v2 rfl rfl) T;obtain⟨n3,rfl,rfl,rfl,k⟩:=open_int underlying3 (a 3 3 v3 rfl rfl) G;obtain⟨O,rfl,rfl,rfl,i⟩:=open_int underlying3 (a 4 3 v4 rfl rfl) h4;obtain⟨Z,rfl,rfl,rfl,g⟩:=open_int underlying3 (a 5 3 v5 rfl rfl) Q;clear Ha;refine (ZD c0 n2 n3 O Z Hf Hi Hh Hg (Pe hla) (mxV n)).mono λe W' ⟨he,bel⟩=>?_
 subst he;exact⟨_,rfl,_,_,_,[],_,[],He,trodAll_mk1 (shut_bool underlying4 _),(trodAll_cons_mk (Below.trod DA (by kernel_rfl) (of_decide_eq_true (by kernel_rfl)) w bel o) (trodAll_cons_mk (Below.trod DA (by kernel_rfl) (of_decide_eq_true (by kernel_rfl)) B bel f) (trodAll_cons_mk (shut_int underlying3 c) (trodAll_cons_mk (shut_int underlying3 k) (trodAll_cons_mk (shut_int underlying3 i) (trodAll_cons_mk (shut_int underlying3 g) trodAll_mk0)))))),rfl,bel.frame _,λh=>by cases h⟩
theorem ZF(os:Os):laidMet prog Rows.topCrashRow.laid ((ye os).forCall (λ_ _=>0) ⟨#[],#[.agg #[(),.int .u64 0,(0:Int),(),(0:Int)],(),.int .i64 0,.int .i64 0,.int .i64 0,.int .i64 0],[]⟩).memory:=
 laidMet_of_run' 8 (by kernel_rfl) (by kernel_rfl)
theorem reads(os:Os){H:Type}(enc:TypeId × Value->H):∃a,DataW.whole enc prog ((ye os).forCall (λ_ _=>0) ⟨#[],#[.agg #[(),.int .u64 0,(0:Int),(),(0:Int)],(),.int .i64 0,.int .i64 0,.int .i64 0,.int .i64 0],[]⟩).memory Tryz.f3.params.toList Rows.topCrashSpec.vars false #[Value.agg #[(),.int .u64 0,(0:Int),(),(0:Int)],Value.slice none 0 0,Value.int .i64 0,Value.int .i64 0,Value.int .i64 0,Value.int .i64 0].toList 8=some ([.agg [.nil,.lit (.int .u64 0),.lit (.int .i64 0),.nil,.lit (.int .i64 0)],.nil,.lit (.int .i64 0),.lit (.int .i64 0),.lit (.int .i64 0),.lit (.int .i64 0)],[],a):=
 ⟨[],by kernel_rfl⟩
theorem lifted(os:Os)(a:os.Started)(H:Type)(enc:TypeId × Value->H)(F:Stop.Interp) :
  ReturnsInHanded {} Tryz.checked os 3 .any ((OpenSpec.ofChange Rows.topCrashSpec).preRow enc prog Tryz.f3 Rows.topCrashRow.domain false Rows.topCrashRow.laid) (((OpenSpec.ofChange Rows.topCrashSpec).at F).post enc prog Tryz.f3 false true false false):=by
 obtain⟨c,e⟩:=reads os enc;refine returnsInHanded_of_row (C:=Tryz.checked) (s:=OpenSpec.ofChange Rows.topCrashSpec) O6 a (by kernel_rfl) func3
  (witness_row_at (enc:=enc) (C:=Tryz.checked) false (ye os) #[.agg #[(),.int .u64 0,(0:Int),(),(0:Int)],(),.int .i64 0,.int .i64 0,.int .i64 0,.int .i64 0] rfl (by kernel_rfl) (by kernel_rfl) (by kernel_rfl)
   (OpenSpec.preRow_of_cond 8 e (by kernel_rfl) (λk f=>by cases f) (by kernel_rfl) (ZF os))) ?_
 intro W base args ds gs b Ha d _ _ _ hla Hb _;exact ZE enc args Ha d Hb hla
theorem ZG:(Rows.topCrashRow.inPlace == prog.inPlace 3)=true:=by kernel_rfl
theorem ZH:(Rows.topCrashRow.unfollowed == prog.unfollowed 3)=true:=by kernel_rfl
theorem ZI:(Rows.topCrashRow.recurses == prog.recurses 3)=true:=by kernel_rfl
theorem ZJ:(Rows.topCrashRow.named == prog.varsNamed 3)=true:=by kernel_rfl
theorem closed:joinedFacts prog 3 Tryz.f3 (OpenSpec.ofChange Rows.topCrashSpec).bare Rows.topCrashRow=true:=by
 unfold joinedFacts;rw[ZG,ZH,ZI,ZJ]
 kernel_rfl
theorem said:Rows.TopCrashSaid:=
 OpenClaim.holds_of_cond 3 Tryz.f3 rfl rfl rfl rfl rfl rfl rfl ⟨rfl,rfl,rfl,rfl,rfl⟩ rfl rfl rfl rfl rfl (by kernel_rfl) func3 closed
  (of_decide_eq_true (by kernel_rfl)) (by unfold Func.isWrapper;first|(rw[if_pos (by decide +kernel)];kernel_rfl)|(rw[if_neg (by decide +kernel)];exact⟨rfl,rfl⟩))
  (λos a H enc _ F=>by rw[OpenClaim.pre_eq_preRow];exact lifted os a H enc F)
theorem plain(f : FuncId)(fn : Func)(hf : Tryz.pinned.checked.prog.funcNamed "ostlery/ostlerytop.TopCrash" = some f)(hfn : Tryz.pinned.checked.prog.funcs[f]? = some fn) :
  true=Tryz.pinned.checked.prog.looks []/\∀(j:Nat) t,fn.params[j]?=some t->Tryz.pinned.checked.prog.wantsStandIn t=false:=by
 obtain rfl : f = 3 := Ql ((show prog.funcNamed "ostlery/ostlerytop.TopCrash" = some 3 by kernel_rfl).symm.trans hf) |>.symm
 obtain rfl:fn=Tryz.f3:=(Ql (func3.symm.trans hfn)).symm;refine⟨by kernel_rfl,λj t ht=>?_⟩;rw[params3] at ht
 have:t=27\/t=28\/t=3:=by simpa using Array.mem_of_getElem? ht
 rcases this with rfl|rfl|rfl
 ·exact (show prog.wantsStandIn 27=false by kernel_rfl)
 ·exact (show prog.wantsStandIn 28=false by kernel_rfl)
 ·exact (show prog.wantsStandIn 3=false by kernel_rfl)
theorem card:Rows.TopCrashCardSaid:=
 Claim7.holds_tied_plain_at .later [] _ _ _ _ said (λ_ h=>by cases h) (by kernel_rfl) (λ_ h=>by cases h) topCrash_row_tie rfl ⟨rfl,rfl⟩ (by kernel_rfl) rfl plain (by kernel_rfl)
end topCrash
theorem topCrash_card:Rows.TopCrashCardSaid:=topCrash.card
