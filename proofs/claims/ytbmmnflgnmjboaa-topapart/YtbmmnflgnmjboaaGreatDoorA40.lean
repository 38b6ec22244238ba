/- The card of TopApart, out of the walk of topApart. -/
import Derived.Test.YtbmmnflgnmjboaaGreatDoorA39
set_option maxRecDepth 100000
set_option maxHeartbeats 16000000
open Go.Proofs.Tryz
namespace Go.Proofs.YtbmmnflgnmjboaaGreatDoor
namespace topApart
open Go.ChangeShapes Go.WideShapes Go.ChangeAt Go.RowKit
theorem Nz (H:Type) (enc:TypeId × Value->H) (W:World) (base:Nat) (args:Array Value) (ds gs:List (DataW H)) (before:List MemPlace)
  (hval:∀ (j:Nat) t v,Tryz.f3.params[j]?=some t->args[j]?=some v->Value.okWide prog W .any base t v)
  (hW:DataW.Whole enc prog Tryz.f3.params.toList Rows.topApartSpec.vars false W args.toList ds gs before) (hsh:W.ShapedOpen prog) (hla:laidMet prog Rows.topApartRow.laid W) :
  Calls prog 3 args W λe W'=>∃ v,e=.returned v/\Rows.topApartSpec.post enc prog Tryz.f3 false true false false W args v W':=by
 have Hc:=hW;obtain ⟨p,q,Ha,hV,rfl,Hi,Hj⟩:=hW;have hA:DataW.TrodAll enc prog W 0 (λ_=>true) true Tryz.f3.params.toList args.toList ds p:=Ha;rw [params3] at hA hval;obtain ⟨v0,vs0,d0,ds0,p0,q0,Hb,rfl,rfl,h0,r0⟩:=trodAll_cons hA;obtain ⟨v1,vs1,d1,ds1,p1,q1,rfl,rfl,rfl,h1,r1⟩:=trodAll_cons r0;obtain ⟨rfl,rfl,rfl⟩:=trodAll_nil r1;obtain rfl:args=#[v0,v1]:=by cases args;simp_all
 obtain ⟨rfl,rfl⟩:=trodVars_none hV;have k0:=h0;have lt0:∀ x∈p0,x.block<W.heap.size:=by obtain ⟨m,hm⟩:=k0;exact DataW.trod_lt m _ _ _ hm
 obtain ⟨c0,ca0,cb0,cg0,co0,rfl,Hg,hd0,Hh⟩:=Ig (hval 0 27 v0 rfl rfl) h0;obtain ⟨a1,len1,cap1,rfl⟩:=okWide_slice underlying28 (hval 1 28 v1 rfl rfl);have k1:=h1;have lt1:∀ x∈p1,x.block<W.heap.size:=by obtain ⟨m,hm⟩:=k1;exact DataW.trod_lt m _ _ _ hm
 obtain ⟨f1,He⟩:=h1;obtain ⟨l1,Hf⟩:=KH He;clear Ha;refine (Ny c0 ca0 cb0 cg0 co0 l1 _ W Hg hd0 Hh Hf (FK hla) (mxV hsh)).mono λe W' ⟨he,bel⟩=>?_
 subst he;exact ⟨_,rfl,_,_,_,[],_,[],Hc,trodAll_mk1 (shut_bool underlying4 _),(trodAll_cons_mk (Below.trod vV (by kernel_rfl) (of_decide_eq_true (by kernel_rfl)) k0 bel lt0) (trodAll_cons_mk (Below.trod vV (by kernel_rfl) (of_decide_eq_true (by kernel_rfl)) k1 bel lt1) trodAll_mk0)),rfl,bel.frame _,λh=>by cases h⟩
theorem NA (os:Os):laidMet prog Rows.topApartRow.laid ((qX os).forCall (λ_ _=>0) ⟨#[],#[.agg #[.slice none 0 0,.int .u64 0,.int .i64 0,.slice none 0 0,.int .i64 0],.slice none 0 0],[]⟩).memory:=
 laidMet_of_run' 8 (by kernel_rfl) (by kernel_rfl)
theorem reads (os:Os) {H:Type} (enc:TypeId × Value->H):∃ places,DataW.whole enc prog ((qX os).forCall (λ_ _=>0) ⟨#[],#[.agg #[.slice none 0 0,.int .u64 0,.int .i64 0,.slice none 0 0,.int .i64 0],.slice none 0 0],[]⟩).memory Tryz.f3.params.toList Rows.topApartSpec.vars false #[Value.agg #[.slice none 0 0,.int .u64 0,.int .i64 0,.slice none 0 0,.int .i64 0],Value.slice none 0 0].toList 8=some ([.agg [.nil,.lit (.int .u64 0),.lit (.int .i64 0),.nil,.lit (.int .i64 0)],.nil],[],places):=
 ⟨[],by kernel_rfl⟩
theorem lifted (os:Os) (started:os.Started) (H:Type) (enc:TypeId × Value->H) (F:Stop.Interp) :
  ReturnsInHanded {} Tryz.checked os 3 .any ((OpenSpec.ofChange Rows.topApartSpec).preRow enc prog Tryz.f3 Rows.topApartRow.domain false Rows.topApartRow.laid) (((OpenSpec.ofChange Rows.topApartSpec).at F).post enc prog Tryz.f3 false true false false):=by
 obtain ⟨places,hx⟩:=reads os enc;refine returnsInHanded_of_row (C:=Tryz.checked) (s:=OpenSpec.ofChange Rows.topApartSpec) FC started (by kernel_rfl) func3
  (witness_row_at (enc:=enc) (C:=Tryz.checked) false (qX os) #[.agg #[.slice none 0 0,.int .u64 0,.int .i64 0,.slice none 0 0,.int .i64 0],.slice none 0 0] rfl (by kernel_rfl) (by kernel_rfl) (by kernel_rfl)
   (OpenSpec.preRow_of_cond 8 hx (by kernel_rfl) (λk hk=>by cases hk) (by kernel_rfl) (NA os))) ?_
 intro W base args ds gs before Ha hW _ _ _ hla Hb _;exact Nz H enc W base args ds gs before Ha hW Hb hla
theorem NB:(Rows.topApartRow.inPlace == prog.inPlace 3)=true:=by kernel_rfl
theorem NC:(Rows.topApartRow.unfollowed == prog.unfollowed 3)=true:=by kernel_rfl
theorem ND:(Rows.topApartRow.recurses == prog.recurses 3)=true:=by kernel_rfl
theorem NE:(Rows.topApartRow.named == prog.varsNamed 3)=true:=by kernel_rfl
theorem closed:joinedFacts prog 3 Tryz.f3 (OpenSpec.ofChange Rows.topApartSpec).bare Rows.topApartRow=true:=by
 unfold joinedFacts;rw [NB,NC,ND,NE]
 kernel_rfl
theorem said:Rows.TopApartSaid:=
 OpenClaim.holds_of_cond 3 Tryz.f3 rfl rfl rfl rfl rfl rfl rfl ⟨rfl,rfl,rfl,rfl,rfl⟩ rfl rfl rfl rfl rfl (by kernel_rfl) func3 closed
  (of_decide_eq_true (by kernel_rfl)) (by unfold Func.isWrapper;first|(rw [if_pos (by decide +kernel)];kernel_rfl)|(rw [if_neg (by decide +kernel)];exact ⟨rfl,rfl⟩))
  (λos started H enc _ F=>by rw [OpenClaim.pre_eq_preRow];exact lifted os started H enc F)
theorem plain (f : FuncId) (fn : Func) (hf : Tryz.pinned.checked.prog.funcNamed "ostlery/ostlerytop.TopApart" = some f) (hfn : Tryz.pinned.checked.prog.funcs[f]? = some fn) :
  true=Tryz.pinned.checked.prog.looks []/\∀ (j:Nat) t,fn.params[j]?=some t->Tryz.pinned.checked.prog.wantsStandIn t=false:=by
 obtain rfl : f = 3 := Ql ((show prog.funcNamed "ostlery/ostlerytop.TopApart" = some 3 by kernel_rfl).symm.trans hf) |>.symm
 obtain rfl:fn=Tryz.f3:=(Ql (func3.symm.trans hfn)).symm;refine ⟨by kernel_rfl,λj t ht=>?_⟩;rw [params3] at ht
 have:t=27\/t=28:=by simpa using Array.mem_of_getElem? ht
 rcases this with rfl|rfl
 ·exact (show prog.wantsStandIn 27=false by kernel_rfl)
 ·exact (show prog.wantsStandIn 28=false by kernel_rfl)
theorem card:Rows.TopApartCardSaid:=
 Claim7.holds_tied_plain_at .later [] _ _ _ _ said (λ_ h=>by cases h) (by kernel_rfl) (λ_ h=>by cases h) topApart_row_tie rfl ⟨rfl,rfl⟩ (by kernel_rfl) rfl plain (by kernel_rfl)
end topApart
section
theorem topApart_card:Rows.TopApartCardSaid:=topApart.card
end
