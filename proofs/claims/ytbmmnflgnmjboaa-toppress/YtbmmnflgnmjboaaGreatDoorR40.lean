/- The card of TopPress, out of the walk of topPress. -/
import Derived.Test.YtbmmnflgnmjboaaGreatDoorR39
set_option maxRecDepth 100000
set_option maxHeartbeats 16000000
open Go.Proofs.Tryz
namespace Go.Proofs.YtbmmnflgnmjboaaGreatDoor
namespace topPress
open Go.ChangeShapes Go.WideShapes Go.ChangeAt Go.RowKit
theorem NB (H:Type) (enc:TypeId × Value->H) (W:World) (base:Nat) (args:Array Value) (ds gs:List (DataW H)) (before:List MemPlace)
  (hval:∀ (j:Nat) t v,Tryz.f7.params[j]?=some t->args[j]?=some v->Value.okWide prog W .any base t v)
  (hW:DataW.Whole enc prog Tryz.f7.params.toList Rows.topPressSpec.vars false W args.toList ds gs before) (hsh:W.ShapedOpen prog) (hla:laidMet prog Rows.topPressRow.laid W) :
  Calls prog 7 args W λe W'=>∃ v,e=.returned v/\Rows.topPressSpec.post enc prog Tryz.f7 false true false false W args v W':=by
 have Hc:=hW;obtain ⟨p,q,Hb,hV,rfl,Hk,Hl⟩:=hW;have hA:DataW.TrodAll enc prog W 0 (λ_=>true) true Tryz.f7.params.toList args.toList ds p:=Hb;rw [params7] at hA hval;obtain ⟨v0,vs0,d0,ds0,p0,q0,Ha,rfl,rfl,h0,r0⟩:=trodAll_cons hA;obtain ⟨v1,vs1,d1,ds1,p1,q1,rfl,rfl,rfl,h1,r1⟩:=trodAll_cons r0;obtain ⟨v2,vs2,d2,ds2,p2,q2,rfl,rfl,rfl,h2,r2⟩:=trodAll_cons r1;obtain ⟨v3,vs3,d3,ds3,p3,q3,rfl,rfl,rfl,h3,r3⟩:=trodAll_cons r2;obtain ⟨rfl,rfl,rfl⟩:=trodAll_nil r3;obtain rfl:args=#[v0,v1,v2,v3]:=by cases args;simp_all
 obtain ⟨rfl,rfl⟩:=trodVars_none hV;have k0:=h0;have lt0:∀ x∈p0,x.block<W.heap.size:=by obtain ⟨m,hm⟩:=k0;exact DataW.trod_lt m _ _ _ hm
 obtain ⟨c0,ca0,cb0,cg0,co0,rfl,Hg,hd0,Hh⟩:=Ij (hval 0 27 v0 rfl rfl) h0;obtain ⟨a1,len1,cap1,rfl⟩:=okWide_slice underlying70 (hval 1 70 v1 rfl rfl);have k1:=h1;have lt1:∀ x∈p1,x.block<W.heap.size:=by obtain ⟨m,hm⟩:=k1;exact DataW.trod_lt m _ _ _ hm
 obtain ⟨f1,Hi⟩:=h1;obtain ⟨l1,Hf⟩:=En Hi;obtain ⟨a2,len2,cap2,rfl⟩:=okWide_slice underlying48 (hval 2 48 v2 rfl rfl);have k2:=h2;have lt2:∀ x∈p2,x.block<W.heap.size:=by obtain ⟨m,hm⟩:=k2;exact DataW.trod_lt m _ _ _ hm
 obtain ⟨f2,Hj⟩:=h2;obtain ⟨l2,He⟩:=Eo Hj;obtain ⟨n3,rfl,rfl,rfl,wn3⟩:=open_int underlying3 (hval 3 3 v3 rfl rfl) h3;clear Hb;refine (NA c0 ca0 cb0 cg0 co0 l1 _ l2 _ n3 W Hg hd0 Hh Hf He (by have:=bounds_i64 wn3;omega) (by have:=bounds_i64 wn3;omega) (G0 hla) (mxV hsh)).mono λe W' ⟨he,bel⟩=>?_
 subst he;exact ⟨_,rfl,_,_,_,[],_,[],Hc,trodAll_mk1 (shut_bool underlying4 _),(trodAll_cons_mk (Below.trod rC (by kernel_rfl) (of_decide_eq_true (by kernel_rfl)) k0 bel lt0) (trodAll_cons_mk (Below.trod rC (by kernel_rfl) (of_decide_eq_true (by kernel_rfl)) k1 bel lt1) (trodAll_cons_mk (Below.trod rC (by kernel_rfl) (of_decide_eq_true (by kernel_rfl)) k2 bel lt2) (trodAll_cons_mk (shut_int underlying3 wn3) trodAll_mk0)))),rfl,bel.frame _,λh=>by cases h⟩
theorem NC (os:Os):laidMet prog Rows.topPressRow.laid ((rD os).forCall (λ_ _=>0) ⟨#[],#[.agg #[.slice none 0 0,.int .u64 0,.int .i64 0,.slice none 0 0,.int .i64 0],.slice none 0 0,.slice none 0 0,.int .i64 0],[]⟩).memory:=
 laidMet_of_run' 8 (by kernel_rfl) (by kernel_rfl)
theorem reads (os:Os) {H:Type} (enc:TypeId × Value->H):∃ places,DataW.whole enc prog ((rD os).forCall (λ_ _=>0) ⟨#[],#[.agg #[.slice none 0 0,.int .u64 0,.int .i64 0,.slice none 0 0,.int .i64 0],.slice none 0 0,.slice none 0 0,.int .i64 0],[]⟩).memory Tryz.f7.params.toList Rows.topPressSpec.vars false #[Value.agg #[.slice none 0 0,.int .u64 0,.int .i64 0,.slice none 0 0,.int .i64 0],Value.slice none 0 0,Value.slice none 0 0,Value.int .i64 0].toList 8=some ([.agg [.nil,.lit (.int .u64 0),.lit (.int .i64 0),.nil,.lit (.int .i64 0)],.nil,.nil,.lit (.int .i64 0)],[],places):=
 ⟨[],by kernel_rfl⟩
theorem lifted (os:Os) (started:os.Started) (H:Type) (enc:TypeId × Value->H) (F:Stop.Interp) :
  ReturnsInHanded {} Tryz.checked os 7 .any ((OpenSpec.ofChange Rows.topPressSpec).preRow enc prog Tryz.f7 Rows.topPressRow.domain false Rows.topPressRow.laid) (((OpenSpec.ofChange Rows.topPressSpec).at F).post enc prog Tryz.f7 false true false false):=by
 obtain ⟨places,hx⟩:=reads os enc;refine returnsInHanded_of_row (C:=Tryz.checked) (s:=OpenSpec.ofChange Rows.topPressSpec) GR started (by kernel_rfl) func7
  (witness_row_at (enc:=enc) (C:=Tryz.checked) false (rD os) #[.agg #[.slice none 0 0,.int .u64 0,.int .i64 0,.slice none 0 0,.int .i64 0],.slice none 0 0,.slice none 0 0,.int .i64 0] rfl (by kernel_rfl) (by kernel_rfl) (by kernel_rfl)
   (OpenSpec.preRow_of_cond 8 hx (by kernel_rfl) (λk hk=>by cases hk) (by kernel_rfl) (NC os))) ?_
 intro W base args ds gs before Ha hW _ _ _ hla Hb _;exact NB H enc W base args ds gs before Ha hW Hb hla
theorem ND:(Rows.topPressRow.inPlace == prog.inPlace 7)=true:=by kernel_rfl
theorem NE:(Rows.topPressRow.unfollowed == prog.unfollowed 7)=true:=by kernel_rfl
theorem NF:(Rows.topPressRow.recurses == prog.recurses 7)=true:=by kernel_rfl
theorem NG:(Rows.topPressRow.named == prog.varsNamed 7)=true:=by kernel_rfl
theorem closed:joinedFacts prog 7 Tryz.f7 (OpenSpec.ofChange Rows.topPressSpec).bare Rows.topPressRow=true:=by
 unfold joinedFacts;rw [ND,NE,NF,NG]
 kernel_rfl
theorem said:Rows.TopPressSaid:=
 OpenClaim.holds_of_cond 7 Tryz.f7 rfl rfl rfl rfl rfl rfl rfl ⟨rfl,rfl,rfl,rfl,rfl⟩ rfl rfl rfl rfl rfl (by kernel_rfl) func7 closed
  (of_decide_eq_true (by kernel_rfl)) (by unfold Func.isWrapper;first|(rw [if_pos (by decide +kernel)];kernel_rfl)|(rw [if_neg (by decide +kernel)];exact ⟨rfl,rfl⟩))
  (λos started H enc _ F=>by rw [OpenClaim.pre_eq_preRow];exact lifted os started H enc F)
theorem plain (f : FuncId) (fn : Func) (hf : Tryz.pinned.checked.prog.funcNamed "ostlery/ostlerytop.TopPress" = some f) (hfn : Tryz.pinned.checked.prog.funcs[f]? = some fn) :
  true=Tryz.pinned.checked.prog.looks []/\∀ (j:Nat) t,fn.params[j]?=some t->Tryz.pinned.checked.prog.wantsStandIn t=false:=by
 obtain rfl : f = 7 := Ql ((show prog.funcNamed "ostlery/ostlerytop.TopPress" = some 7 by kernel_rfl).symm.trans hf) |>.symm
 obtain rfl:fn=Tryz.f7:=(Ql (func7.symm.trans hfn)).symm;refine ⟨by kernel_rfl,λj t ht=>?_⟩;rw [params7] at ht
 have:t=27\/t=70\/t=48\/t=3:=by simpa using Array.mem_of_getElem? ht
 rcases this with rfl|rfl|rfl|rfl
 ·exact (show prog.wantsStandIn 27=false by kernel_rfl)
 ·exact (show prog.wantsStandIn 70=false by kernel_rfl)
 ·exact (show prog.wantsStandIn 48=false by kernel_rfl)
 ·exact (show prog.wantsStandIn 3=false by kernel_rfl)
theorem card:Rows.TopPressCardSaid:=
 Claim7.holds_tied_plain_at .later [] _ _ _ _ said (λ_ h=>by cases h) (by kernel_rfl) (λ_ h=>by cases h) topPress_row_tie rfl ⟨rfl,rfl⟩ (by kernel_rfl) rfl plain (by kernel_rfl)
end topPress
section
theorem topPress_card:Rows.TopPressCardSaid:=topPress.card
end
