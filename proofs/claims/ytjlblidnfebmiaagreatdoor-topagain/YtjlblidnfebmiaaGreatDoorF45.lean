/- For every config, list of acts and list of pods, TopAgain answers true and leaves its arguments as they were: a new ostler over what another one held holds and answers the same. The conditions are those of the given card. -/
import Derived.Test.YtjlblidnfebmiaaGreatDoorF44
set_option maxRecDepth 100000
set_option maxHeartbeats 16000000
open Go Go.RowKit
open Go.Proofs.Tryz
namespace Go.Proofs.YtjlblidnfebmiaaGreatDoor
namespace topAgain
open Go.ChangeShapes Go.WideShapes Go.ChangeAt Go.RowKit
theorem Wu(H:Type)(enc:TypeId × Value->H)(W:World)(base:Nat)(args:Array Value)(ds gs:List (DataW H))(b:List MemPlace)
  (a:∀(j:Nat) t v,Tryz.f4.params[j]?=some t->args[j]?=some v->Value.okWide prog W .any base t v)
  (D:DataW.Whole enc prog Tryz.f4.params.toList Rows.topAgainSpec.vars false W args.toList ds gs b) (n:W.ShapedOpen prog) (hla:laidMet prog Rows.topAgainRow.laid W) :
  Calls prog 4 args W λe W'=>∃v,e=.returned v/\Rows.topAgainSpec.post enc prog Tryz.f4 false true false false W args v W':=by
 have Hc:=D;obtain⟨p,q,Hb,M,rfl,Hl,Hm⟩:=D;have r:DataW.TrodAll enc prog W 0 (λ_=>true) true Tryz.f4.params.toList args.toList ds p:=Hb;rw[params4] at r a;obtain⟨v0,I,X,T,L,q0,Ha,rfl,rfl,E,r0⟩:=trodAll_cons r;obtain⟨A,O,V,P,K,Z,rfl,rfl,rfl,y,r1⟩:=trodAll_cons r0;obtain⟨v2,N,d2,J,Q,Y,rfl,rfl,rfl,F,S⟩:=trodAll_cons r1;obtain⟨rfl,rfl,rfl⟩:=trodAll_nil S;obtain rfl:args=#[v0,A,v2]:=by cases args;simp_all
 obtain⟨rfl,rfl⟩:=trodVars_none M;have w:=E;have d:∀x∈L,x.block<W.heap.size:=by obtain⟨m,c⟩:=w;exact DataW.trod_lt m _ _ _ c
 obtain⟨c0,f,k,i,o,rfl,Hj,He,Hg⟩:=NK (a 0 27 v0 rfl rfl) E;obtain⟨a1,u,B,rfl⟩:=okWide_slice underlying28 (a 1 28 A rfl rfl);have G:=y;have g:∀x∈K,x.block<W.heap.size:=by obtain⟨m,c⟩:=G;exact DataW.trod_lt m _ _ _ c
 obtain⟨f1,Hk⟩:=y;obtain⟨R,Hh⟩:=T8 Hk;obtain⟨a2,z,s,rfl⟩:=okWide_slice underlying67 (a 2 67 v2 rfl rfl);have C:=F;have l:∀x∈Q,x.block<W.heap.size:=by obtain⟨m,c⟩:=C;exact DataW.trod_lt m _ _ _ c
 obtain⟨f2,Hf⟩:=F;obtain⟨U,Hi⟩:=K2 Hf;clear Hb;refine (Wt c0 f k i o R _ U _ W Hj He Hg Hh Hi (O9 hla) (mxV n)).mono λe W' ⟨he,bel⟩=>?_
 subst he;exact⟨_,rfl,_,_,_,[],_,[],Hc,trodAll_mk1 (shut_bool underlying4 _),(trodAll_cons_mk (Below.trod xt (by kernel_rfl) (of_decide_eq_true (by kernel_rfl)) w bel d) (trodAll_cons_mk (Below.trod xt (by kernel_rfl) (of_decide_eq_true (by kernel_rfl)) G bel g) (trodAll_cons_mk (Below.trod xt (by kernel_rfl) (of_decide_eq_true (by kernel_rfl)) C bel l) trodAll_mk0))),rfl,bel.frame _,λh=>by cases h⟩
theorem Wv(os:Os):laidMet prog Rows.topAgainRow.laid ((xu os).forCall (λ_ _=>0) ⟨#[],#[.agg #[.slice none 0 0,.int .u64 0,(0:Int),.slice none 0 0,(0:Int)],.slice none 0 0,.slice none 0 0],[]⟩).memory:=
 laidMet_of_run' 8 (by kernel_rfl) (by kernel_rfl)
theorem reads(os:Os){H:Type}(enc:TypeId × Value->H):∃a,DataW.whole enc prog ((xu os).forCall (λ_ _=>0) ⟨#[],#[.agg #[.slice none 0 0,.int .u64 0,(0:Int),.slice none 0 0,(0:Int)],.slice none 0 0,.slice none 0 0],[]⟩).memory Tryz.f4.params.toList Rows.topAgainSpec.vars false #[Value.agg #[.slice none 0 0,.int .u64 0,(0:Int),.slice none 0 0,(0:Int)],Value.slice none 0 0,Value.slice none 0 0].toList 8=some ([.agg [.nil,.lit (.int .u64 0),.lit (.int .i64 0),.nil,.lit (.int .i64 0)],.nil,.nil],[],a):=
 ⟨[],by kernel_rfl⟩
theorem lifted(os:Os)(a:os.Started)(H:Type)(enc:TypeId × Value->H)(F:Stop.Interp) :
  ReturnsInHanded {} Tryz.checked os 4 .any ((OpenSpec.ofChange Rows.topAgainSpec).preRow enc prog Tryz.f4 Rows.topAgainRow.domain false Rows.topAgainRow.laid) (((OpenSpec.ofChange Rows.topAgainSpec).at F).post enc prog Tryz.f4 false true false false):=by
 obtain⟨c,d⟩:=reads os enc;refine returnsInHanded_of_row (C:=Tryz.checked) (s:=OpenSpec.ofChange Rows.topAgainSpec) O1 a (by kernel_rfl) func4
  (witness_row_at (enc:=enc) (C:=Tryz.checked) false (xu os) #[.agg #[.slice none 0 0,.int .u64 0,(0:Int),.slice none 0 0,(0:Int)],.slice none 0 0,.slice none 0 0] rfl (by kernel_rfl) (by kernel_rfl) (by kernel_rfl)
   (OpenSpec.preRow_of_cond 8 d (by kernel_rfl) (λk e=>by cases e) (by kernel_rfl) (Wv os))) ?_
 intro W base args ds gs b Ha f _ _ _ hla Hb _;exact Wu H enc W base args ds gs b Ha f Hb hla
theorem Ww:(Rows.topAgainRow.inPlace == prog.inPlace 4)=true:=by kernel_rfl
theorem Wx:(Rows.topAgainRow.unfollowed == prog.unfollowed 4)=true:=by kernel_rfl
theorem Wy:(Rows.topAgainRow.recurses == prog.recurses 4)=true:=by kernel_rfl
theorem Wz:(Rows.topAgainRow.named == prog.varsNamed 4)=true:=by kernel_rfl
theorem closed:joinedFacts prog 4 Tryz.f4 (OpenSpec.ofChange Rows.topAgainSpec).bare Rows.topAgainRow=true:=by
 unfold joinedFacts;rw[Ww,Wx,Wy,Wz]
 kernel_rfl
theorem said:Rows.TopAgainSaid:=
 OpenClaim.holds_of_cond 4 Tryz.f4 rfl rfl rfl rfl rfl rfl rfl ⟨rfl,rfl,rfl,rfl,rfl⟩ rfl rfl rfl rfl rfl (by kernel_rfl) func4 closed
  (of_decide_eq_true (by kernel_rfl)) (by unfold Func.isWrapper;first|(rw[if_pos (by decide +kernel)];kernel_rfl)|(rw[if_neg (by decide +kernel)];exact⟨rfl,rfl⟩))
  (λos a H enc _ F=>by rw[OpenClaim.pre_eq_preRow];exact lifted os a H enc F)
theorem plain(f : FuncId)(fn : Func)(hf : Tryz.pinned.checked.prog.funcNamed "ostlery/ostlerytop.TopAgain" = some f)(hfn : Tryz.pinned.checked.prog.funcs[f]? = some fn) :
  true=Tryz.pinned.checked.prog.looks []/\∀(j:Nat) t,fn.params[j]?=some t->Tryz.pinned.checked.prog.wantsStandIn t=false:=by
 obtain rfl : f = 4 := Ql ((show prog.funcNamed "ostlery/ostlerytop.TopAgain" = some 4 by kernel_rfl).symm.trans hf) |>.symm
 obtain rfl:fn=Tryz.f4:=(Ql (func4.symm.trans hfn)).symm;refine⟨by kernel_rfl,λj t ht=>?_⟩;rw[params4] at ht
 have:t=27\/t=28\/t=67:=by simpa using Array.mem_of_getElem? ht
 rcases this with rfl|rfl|rfl
 ·exact (show prog.wantsStandIn 27=false by kernel_rfl)
 ·exact (show prog.wantsStandIn 28=false by kernel_rfl)
 ·exact (show prog.wantsStandIn 67=false by kernel_rfl)
theorem card:Rows.TopAgainCardSaid:=
 Claim7.holds_tied_plain_at .later [] _ _ _ _ said (λ_ h=>by cases h) (by kernel_rfl) (λ_ h=>by cases h) topAgain_row_tie rfl ⟨rfl,rfl⟩ (by kernel_rfl) rfl plain (by kernel_rfl)
end topAgain
theorem topAgain_card:Rows.TopAgainCardSaid:=topAgain.card
