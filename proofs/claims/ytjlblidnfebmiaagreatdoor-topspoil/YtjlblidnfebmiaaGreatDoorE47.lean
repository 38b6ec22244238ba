/- For every config, list of acts and text, TopSpoil answers true and leaves its arguments as they were: whatever stands in the file, what a new ostler holds is sound, and just that runs. The conditions are those of the given card. -/
import Derived.Test.YtjlblidnfebmiaaGreatDoorE46
set_option maxRecDepth 100000
set_option maxHeartbeats 16000000
open Go Go.RowKit
open Go.Proofs.Tryz
namespace Go.Proofs.YtjlblidnfebmiaaGreatDoor
namespace topSpoil
open Go.ChangeShapes Go.WideShapes Go.ChangeAt Go.RowKit
open Go.ChangeMaps (open_string shut_string)
theorem Vh (H:Type) (enc:TypeId × Value->H) (W:World) (base:Nat) (args:Array Value) (ds gs:List (DataW H)) (b:List MemPlace)
  (a:∀ (j:Nat) t v,Tryz.f5.params[j]?=some t->args[j]?=some v->Value.okWide prog W .any base t v)
  (r:DataW.Whole enc prog Tryz.f5.params.toList Rows.topSpoilSpec.vars false W args.toList ds gs b) (g:W.ShapedOpen prog) (hla:laidMet prog Rows.topSpoilRow.laid W) :
  Calls prog 5 args W λe W'=>∃ v,e=.returned v/\Rows.topSpoilSpec.post enc prog Tryz.f5 false true false false W args v W':=by
 have Hi:=r;obtain ⟨p,q,Ha,O,rfl,Hk,Hj⟩:=r;have y:DataW.TrodAll enc prog W 0 (λ_=>true) true Tryz.f5.params.toList args.toList ds p:=Ha;rw [params5] at y a;obtain ⟨v0,I,T,G,P,V,Hb,rfl,rfl,z,r0⟩:=trodAll_cons y;obtain ⟨s,J,R,M,E,S,rfl,rfl,rfl,C,r1⟩:=trodAll_cons r0;obtain ⟨v2,L,U,F,Q,X,rfl,rfl,rfl,N,D⟩:=trodAll_cons r1;obtain ⟨rfl,rfl,rfl⟩:=trodAll_nil D;obtain rfl:args=#[v0,s,v2]:=by cases args;simp_all
 obtain ⟨rfl,rfl⟩:=trodVars_none O;have B:=z;have c:∀ x∈P,x.block<W.heap.size:=by obtain ⟨m,k⟩:=B;exact DataW.trod_lt m _ _ _ k
 obtain ⟨c0,o,d,l,i,rfl,Hf,He,Hh⟩:=MV (a 0 27 v0 rfl rfl) z;obtain ⟨Y,u,w,rfl⟩:=okWide_slice underlying67 (a 1 67 s rfl rfl);have A:=C;have f:∀ x∈E,x.block<W.heap.size:=by obtain ⟨m,k⟩:=A;exact DataW.trod_lt m _ _ _ k
 obtain ⟨f1,Hg⟩:=C;obtain ⟨K,Hc⟩:=Kp Hg;obtain ⟨n2,rfl,rfl,rfl,n⟩:=open_string underlying9 (a 2 9 v2 rfl rfl) N;clear Ha;refine (Vg c0 o d l i K _ _ W Hf He Hh Hc (Oc hla) (mxV g)).mono λe W' ⟨he,bel⟩=>?_
 subst he;exact ⟨_,rfl,_,_,_,[],_,[],Hi,trodAll_mk1 (shut_bool underlying4 _),(trodAll_cons_mk (Below.trod Cs (by kernel_rfl) (of_decide_eq_true (by kernel_rfl)) B bel c) (trodAll_cons_mk (Below.trod Cs (by kernel_rfl) (of_decide_eq_true (by kernel_rfl)) A bel f) (trodAll_cons_mk (shut_string underlying9 n) trodAll_mk0))),rfl,bel.frame _,λh=>by cases h⟩
theorem Vi (os:Os):laidMet prog Rows.topSpoilRow.laid ((wR os).forCall (λ_ _=>0) ⟨#[],#[.agg #[.slice none 0 0,.int .u64 0,.int .i64 0,.slice none 0 0,.int .i64 0],.slice none 0 0,.string ⟨#[]⟩],[]⟩).memory:=
 laidMet_of_run' 8 (by kernel_rfl) (by kernel_rfl)
theorem reads (os:Os) {H:Type} (enc:TypeId × Value->H):∃ a,DataW.whole enc prog ((wR os).forCall (λ_ _=>0) ⟨#[],#[.agg #[.slice none 0 0,.int .u64 0,.int .i64 0,.slice none 0 0,.int .i64 0],.slice none 0 0,.string ⟨#[]⟩],[]⟩).memory Tryz.f5.params.toList Rows.topSpoilSpec.vars false #[Value.agg #[.slice none 0 0,.int .u64 0,.int .i64 0,.slice none 0 0,.int .i64 0],Value.slice none 0 0,Value.string ⟨#[]⟩].toList 8=some ([.agg [.nil,.lit (.int .u64 0),.lit (.int .i64 0),.nil,.lit (.int .i64 0)],.nil,.lit (.string [])],[],a):=
 ⟨[],by kernel_rfl⟩
theorem lifted (os:Os) (a:os.Started) (H:Type) (enc:TypeId × Value->H) (F:Stop.Interp) :
  ReturnsInHanded {} Tryz.checked os 5 .any ((OpenSpec.ofChange Rows.topSpoilSpec).preRow enc prog Tryz.f5 Rows.topSpoilRow.domain false Rows.topSpoilRow.laid) (((OpenSpec.ofChange Rows.topSpoilSpec).at F).post enc prog Tryz.f5 false true false false):=by
 obtain ⟨c,e⟩:=reads os enc;refine returnsInHanded_of_row (C:=Tryz.checked) (s:=OpenSpec.ofChange Rows.topSpoilSpec) N4 a (by kernel_rfl) func5
  (witness_row_at (enc:=enc) (C:=Tryz.checked) false (wR os) #[.agg #[.slice none 0 0,.int .u64 0,.int .i64 0,.slice none 0 0,.int .i64 0],.slice none 0 0,.string ⟨#[]⟩] rfl (by kernel_rfl) (by kernel_rfl) (by kernel_rfl)
   (OpenSpec.preRow_of_cond 8 e (by kernel_rfl) (λk f=>by cases f) (by kernel_rfl) (Vi os))) ?_
 intro W base args ds gs b Ha d _ _ _ hla Hb _;exact Vh H enc W base args ds gs b Ha d Hb hla
theorem Vj:(Rows.topSpoilRow.inPlace == prog.inPlace 5)=true:=by kernel_rfl
theorem Vk:(Rows.topSpoilRow.unfollowed == prog.unfollowed 5)=true:=by kernel_rfl
theorem Vl:(Rows.topSpoilRow.recurses == prog.recurses 5)=true:=by kernel_rfl
theorem Vm:(Rows.topSpoilRow.named == prog.varsNamed 5)=true:=by kernel_rfl
theorem closed:joinedFacts prog 5 Tryz.f5 (OpenSpec.ofChange Rows.topSpoilSpec).bare Rows.topSpoilRow=true:=by
 unfold joinedFacts;rw [Vj,Vk,Vl,Vm]
 kernel_rfl
theorem said:Rows.TopSpoilSaid:=
 OpenClaim.holds_of_cond 5 Tryz.f5 rfl rfl rfl rfl rfl rfl rfl ⟨rfl,rfl,rfl,rfl,rfl⟩ rfl rfl rfl rfl rfl (by kernel_rfl) func5 closed
  (of_decide_eq_true (by kernel_rfl)) (by unfold Func.isWrapper;first|(rw [if_pos (by decide +kernel)];kernel_rfl)|(rw [if_neg (by decide +kernel)];exact ⟨rfl,rfl⟩))
  (λos a H enc _ F=>by rw [OpenClaim.pre_eq_preRow];exact lifted os a H enc F)
theorem plain (f : FuncId) (fn : Func) (hf : Tryz.pinned.checked.prog.funcNamed "ostlery/ostlerytop.TopSpoil" = some f) (hfn : Tryz.pinned.checked.prog.funcs[f]? = some fn) :
  true=Tryz.pinned.checked.prog.looks []/\∀ (j:Nat) t,fn.params[j]?=some t->Tryz.pinned.checked.prog.wantsStandIn t=false:=by
 obtain rfl : f = 5 := Ql ((show prog.funcNamed "ostlery/ostlerytop.TopSpoil" = some 5 by kernel_rfl).symm.trans hf) |>.symm
 obtain rfl:fn=Tryz.f5:=(Ql (func5.symm.trans hfn)).symm;refine ⟨by kernel_rfl,λj t ht=>?_⟩;rw [params5] at ht
 have:t=27\/t=67\/t=9:=by simpa using Array.mem_of_getElem? ht
 rcases this with rfl|rfl|rfl
 ·exact (show prog.wantsStandIn 27=false by kernel_rfl)
 ·exact (show prog.wantsStandIn 67=false by kernel_rfl)
 ·exact (show prog.wantsStandIn 9=false by kernel_rfl)
theorem card:Rows.TopSpoilCardSaid:=
 Claim7.holds_tied_plain_at .later [] _ _ _ _ said (λ_ h=>by cases h) (by kernel_rfl) (λ_ h=>by cases h) topSpoil_row_tie rfl ⟨rfl,rfl⟩ (by kernel_rfl) rfl plain (by kernel_rfl)
end topSpoil
theorem topSpoil_card:Rows.TopSpoilCardSaid:=topSpoil.card
