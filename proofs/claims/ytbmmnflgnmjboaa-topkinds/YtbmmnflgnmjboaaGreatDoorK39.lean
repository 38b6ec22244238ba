/- The card of TopKinds, out of the walk of topKinds. -/
import Derived.Test.YtbmmnflgnmjboaaGreatDoorK38
set_option maxRecDepth 100000
set_option maxHeartbeats 16000000
namespace Go.Proofs.YtbmmnflgnmjboaaGreatDoor
namespace topKinds
open Go.ChangeShapes Go.WideShapes Go.ChangeAt Go.RowKit
theorem Ls (H:Type) (enc:TypeId × Value->H) (W:World) (base:Nat) (args:Array Value) (ds gs:List (DataW H)) (before:List MemPlace)
  (hval:∀ (j:Nat) t v,Tryz.f5.params[j]?=some t->args[j]?=some v->Value.okWide Tryz.prog W .any base t v)
  (hW:DataW.Whole enc Tryz.prog Tryz.f5.params.toList Rows.topKindsSpec.vars false W args.toList ds gs before) (hsh:W.ShapedOpen Tryz.prog) (hla:laidMet Tryz.prog Rows.topKindsRow.laid W) :
  Calls Tryz.prog 5 args W λe W'=>∃ v,e=.returned v/\Rows.topKindsSpec.post enc Tryz.prog Tryz.f5 false true false false W args v W':=by
 have hW':=hW;obtain ⟨p,q,hA0,hV,rfl,hfz,hnd⟩:=hW;have hA:DataW.TrodAll enc Tryz.prog W 0 (λ_=>true) true Tryz.f5.params.toList args.toList ds p:=hA0;rw [Tryz.params5] at hA hval;obtain ⟨v0,vs0,d0,ds0,p0,q0,hargs,rfl,rfl,h0,r0⟩:=trodAll_cons hA;obtain ⟨v1,vs1,d1,ds1,p1,q1,rfl,rfl,rfl,h1,r1⟩:=trodAll_cons r0;obtain ⟨rfl,rfl,rfl⟩:=trodAll_nil r1;obtain rfl:args=#[v0,v1]:=by cases args;simp_all
 obtain ⟨rfl,rfl⟩:=trodVars_none hV;have k0:=h0;have lt0:∀ x∈p0,x.block<W.heap.size:=by obtain ⟨m,hm⟩:=k0;exact DataW.trod_lt m _ _ _ hm
 obtain ⟨c0,ca0,cb0,cg0,co0,rfl,hc0,hd0,hk0⟩:=Fs (hval 0 27 v0 rfl rfl) h0;obtain ⟨a1,len1,cap1,rfl⟩:=okWide_slice Tryz.underlying28 (hval 1 28 v1 rfl rfl);have k1:=h1;have lt1:∀ x∈p1,x.block<W.heap.size:=by obtain ⟨m,hm⟩:=k1;exact DataW.trod_lt m _ _ _ hm
 obtain ⟨f1,hf1⟩:=h1;obtain ⟨l1,hl1⟩:=IX hf1;clear hA0;refine (Lr c0 ca0 cb0 cg0 co0 l1 _ W hc0 hd0 hk0 hl1 (DL hla) (mxV hsh)).mono λe W' ⟨he,bel⟩=>?_
 subst he;exact ⟨_,rfl,_,_,_,[],_,[],hW',trodAll_mk1 (shut_bool Tryz.underlying4 _),(trodAll_cons_mk (Below.trod tF (by kernel_rfl) (of_decide_eq_true (by kernel_rfl)) k0 bel lt0) (trodAll_cons_mk (Below.trod tF (by kernel_rfl) (of_decide_eq_true (by kernel_rfl)) k1 bel lt1) trodAll_mk0)),rfl,bel.frame _,λh=>by cases h⟩
theorem Lt (os:Os):laidMet Tryz.prog Rows.topKindsRow.laid ((ph os).forCall (λ_ _=>0) ⟨#[],#[.agg #[.slice none 0 0,.int .u64 0,.int .i64 0,.slice none 0 0,.int .i64 0],.slice none 0 0],[]⟩).memory:=
 laidMet_of_run' 8 (by kernel_rfl) (by kernel_rfl)
theorem reads (os:Os) {H:Type} (enc:TypeId × Value->H):∃ places,DataW.whole enc Tryz.prog ((ph os).forCall (λ_ _=>0) ⟨#[],#[.agg #[.slice none 0 0,.int .u64 0,.int .i64 0,.slice none 0 0,.int .i64 0],.slice none 0 0],[]⟩).memory Tryz.f5.params.toList Rows.topKindsSpec.vars false #[Value.agg #[.slice none 0 0,.int .u64 0,.int .i64 0,.slice none 0 0,.int .i64 0],Value.slice none 0 0].toList 8=some ([.agg [.nil,.lit (.int .u64 0),.lit (.int .i64 0),.nil,.lit (.int .i64 0)],.nil],[],places):=
 ⟨[],by kernel_rfl⟩
theorem lifted (os:Os) (started:os.Started) (H:Type) (enc:TypeId × Value->H) (F:Stop.Interp) :
  ReturnsInHanded {} Tryz.checked os 5 .any ((OpenSpec.ofChange Rows.topKindsSpec).preRow enc Tryz.prog Tryz.f5 Rows.topKindsRow.domain false Rows.topKindsRow.laid) (((OpenSpec.ofChange Rows.topKindsSpec).at F).post enc Tryz.prog Tryz.f5 false true false false):=by
 obtain ⟨places,hx⟩:=reads os enc;refine returnsInHanded_of_row (C:=Tryz.checked) (s:=OpenSpec.ofChange Rows.topKindsSpec) DD started (by kernel_rfl) Tryz.func5
  (witness_row_at (enc:=enc) (C:=Tryz.checked) false (ph os) #[.agg #[.slice none 0 0,.int .u64 0,.int .i64 0,.slice none 0 0,.int .i64 0],.slice none 0 0] rfl (by kernel_rfl) (by kernel_rfl) (by kernel_rfl)
   (OpenSpec.preRow_of_cond 8 hx (by kernel_rfl) (λk hk=>by cases hk) (by kernel_rfl) (Lt os))) ?_
 intro W base args ds gs before hval hW _ _ _ hla hsh _;exact Ls H enc W base args ds gs before hval hW hsh hla
theorem Lu:(Rows.topKindsRow.inPlace == Tryz.prog.inPlace 5)=true:=by kernel_rfl
theorem Lv:(Rows.topKindsRow.unfollowed == Tryz.prog.unfollowed 5)=true:=by kernel_rfl
theorem Lw:(Rows.topKindsRow.recurses == Tryz.prog.recurses 5)=true:=by kernel_rfl
theorem Lx:(Rows.topKindsRow.named == Tryz.prog.varsNamed 5)=true:=by kernel_rfl
theorem closed:joinedFacts Tryz.prog 5 Tryz.f5 (OpenSpec.ofChange Rows.topKindsSpec).bare Rows.topKindsRow=true:=by
 unfold joinedFacts;rw [Lu,Lv,Lw,Lx]
 kernel_rfl
theorem said:Rows.TopKindsSaid:=
 OpenClaim.holds_of_cond 5 Tryz.f5 rfl rfl rfl rfl rfl rfl rfl ⟨rfl,rfl,rfl,rfl,rfl⟩ rfl rfl rfl rfl rfl (by kernel_rfl) Tryz.func5 closed
  (of_decide_eq_true (by kernel_rfl)) (by unfold Func.isWrapper;first|(rw [if_pos (by decide +kernel)];kernel_rfl)|(rw [if_neg (by decide +kernel)];exact ⟨rfl,rfl⟩))
  (λos started H enc _ F=>by rw [OpenClaim.pre_eq_preRow];exact lifted os started H enc F)
theorem plain (f : FuncId) (fn : Func) (hf : Tryz.pinned.checked.prog.funcNamed "ostlery/ostlerytop.TopKinds" = some f) (hfn : Tryz.pinned.checked.prog.funcs[f]? = some fn) :
  true=Tryz.pinned.checked.prog.looks []/\∀ (j:Nat) t,fn.params[j]?=some t->Tryz.pinned.checked.prog.wantsStandIn t=false:=by
 obtain rfl : f = 5 := Ql ((show Tryz.prog.funcNamed "ostlery/ostlerytop.TopKinds" = some 5 by kernel_rfl).symm.trans hf) |>.symm
 obtain rfl:fn=Tryz.f5:=(Ql (Tryz.func5.symm.trans hfn)).symm;refine ⟨by kernel_rfl,λj t ht=>?_⟩;rw [Tryz.params5] at ht
 have:t=27\/t=28:=by simpa using Array.mem_of_getElem? ht
 rcases this with rfl|rfl
 ·exact (show Tryz.prog.wantsStandIn 27=false by kernel_rfl)
 ·exact (show Tryz.prog.wantsStandIn 28=false by kernel_rfl)
theorem card:Rows.TopKindsCardSaid:=
 Claim7.holds_tied_plain_at .later [] _ _ _ _ said (λ_ h=>by cases h) (by kernel_rfl) (λ_ h=>by cases h) topKinds_row_tie rfl ⟨rfl,rfl⟩ (by kernel_rfl) rfl plain (by kernel_rfl)
end topKinds
section
theorem topKinds_card:Rows.TopKindsCardSaid:=topKinds.card
end
