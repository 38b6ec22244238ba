/- 'TopGone' answers true for any config, any pods and any pod: what is let go leaves the machine as it was ahead of it, and who is let in then is given the same (M3, M4), wherever the library's tables start as the program's text lays them. -/
import Derived.Test.YtbfdcmodflnkfaaGreatDoorG33
set_option maxRecDepth 100000
set_option maxHeartbeats 16000000
namespace Go.Proofs.YtbfdcmodflnkfaaGreatDoor
namespace topGone
open Go.ChangeShapes Go.WideShapes Go.ChangeAt Go.RowKit
theorem contract (H:Type) (enc:TypeId × Value→H) (W:World) (base:Nat) (args:Array Value) (ds gs:List (DataW H)) (before:List MemPlace)
  (hval:∀ (j:Nat) t v,Tryz.f3.params[j]?=some t→args[j]?=some v→Value.okWide Tryz.prog W .any base t v)
  (hW:DataW.Whole enc Tryz.prog Tryz.f3.params.toList Rows.topGoneSpec.vars false W args.toList ds gs before) (hsh:W.ShapedOpen Tryz.prog) (hla:laidMet Tryz.prog Rows.topGoneRow.laid W) :
  Calls Tryz.prog 3 args W fun e W'=>∃ v,e=.returned v∧Rows.topGoneSpec.post enc Tryz.prog Tryz.f3 false true false false W args v W':=by
 have hW':=hW;obtain ⟨p,q,hA0,hV,rfl,hfz,hnd⟩:=hW;have hA:DataW.TrodAll enc Tryz.prog W 0 (fun _=>true) true Tryz.f3.params.toList args.toList ds p:=hA0;rw [Tryz.params3] at hA hval;obtain ⟨v0,vs0,d0,ds0,p0,q0,hargs,rfl,rfl,h0,r0⟩:=trodAll_cons hA;obtain ⟨v1,vs1,d1,ds1,p1,q1,rfl,rfl,rfl,h1,r1⟩:=trodAll_cons r0;obtain ⟨v2,vs2,d2,ds2,p2,q2,rfl,rfl,rfl,h2,r2⟩:=trodAll_cons r1;obtain ⟨rfl,rfl,rfl⟩:=trodAll_nil r2;obtain rfl:args=#[v0,v1,v2]:=by cases args;simp_all
 obtain ⟨rfl,rfl⟩:=trodVars_none hV;have k0:=h0;have lt0:∀ x∈p0,x.block<W.heap.size:=by obtain ⟨m,hm⟩:=k0;exact DataW.trod_lt m _ _ _ hm
 obtain ⟨c0,ca0,cb0,cg0,co0,rfl,hc0,hd0,hk0⟩:=conf_open (hval 0 27 v0 rfl rfl) h0;obtain ⟨a1,len1,cap1,rfl⟩:=okWide_slice Tryz.underlying28 (hval 1 28 v1 rfl rfl);have k1:=h1;have lt1:∀ x∈p1,x.block<W.heap.size:=by obtain ⟨m,hm⟩:=k1;exact DataW.trod_lt m _ _ _ hm
 obtain ⟨f1,hf1⟩:=h1;obtain ⟨l1,hl1⟩:=pods_of_trod hf1;have k2:=h2;have lt2:∀ x∈p2,x.block<W.heap.size:=by obtain ⟨m,hm⟩:=k2;exact DataW.trod_lt m _ _ _ hm
 obtain ⟨pd2,cv2,rfl,hp2⟩:=podO_open (hval 2 31 v2 rfl rfl) h2;clear hA0;refine (topGone_true c0 ca0 cb0 cg0 co0 l1 _ pd2 cv2 W hc0 hd0 hk0 hl1 hp2 (tabUpV hla) (mxV hsh)).mono fun e W' ⟨he,bel⟩=>?_
 subst he;exact ⟨_,rfl,_,_,_,[],_,[],hW',trodAll_mk1 (shut_bool Tryz.underlying4 _),(trodAll_cons_mk (Below.trod laidOutV (by kernel_rfl) (of_decide_eq_true (by kernel_rfl)) k0 bel lt0) (trodAll_cons_mk (Below.trod laidOutV (by kernel_rfl) (of_decide_eq_true (by kernel_rfl)) k1 bel lt1) (trodAll_cons_mk (Below.trod laidOutV (by kernel_rfl) (of_decide_eq_true (by kernel_rfl)) k2 bel lt2) trodAll_mk0))),rfl,bel.frame _,fun h=>by cases h⟩
theorem laid_met (os:Os):laidMet Tryz.prog Rows.topGoneRow.laid ((setWorld os).forCall (fun _ _=>0) ⟨#[],#[.agg #[.slice none 0 0,.int .u64 0,.int .i64 0,.slice none 0 0,.int .i64 0],.slice none 0 0,.agg #[.string ⟨#[]⟩,.int .i64 0,.slice none 0 0]],[]⟩).memory:=
 laidMet_of_run' 8 (by kernel_rfl) (by kernel_rfl)
theorem reads (os:Os) {H:Type} (enc:TypeId × Value→H):∃ places,DataW.whole enc Tryz.prog ((setWorld os).forCall (fun _ _=>0) ⟨#[],#[.agg #[.slice none 0 0,.int .u64 0,.int .i64 0,.slice none 0 0,.int .i64 0],.slice none 0 0,.agg #[.string ⟨#[]⟩,.int .i64 0,.slice none 0 0]],[]⟩).memory Tryz.f3.params.toList Rows.topGoneSpec.vars false #[Value.agg #[.slice none 0 0,.int .u64 0,.int .i64 0,.slice none 0 0,.int .i64 0],Value.slice none 0 0,Value.agg #[.string ⟨#[]⟩,.int .i64 0,.slice none 0 0]].toList 8=some ([.agg [.nil,.lit (.int .u64 0),.lit (.int .i64 0),.nil,.lit (.int .i64 0)],.nil,.agg [.lit (.string []),.lit (.int .i64 0),.nil]],[],places):=
 ⟨[],by kernel_rfl⟩
theorem lifted (os:Os) (started:os.Started) (H:Type) (enc:TypeId × Value→H) (F:Stop.Interp) :
  ReturnsInHanded {} Tryz.checked os 3 .any ((OpenSpec.ofChange Rows.topGoneSpec).preRow enc Tryz.prog Tryz.f3 Rows.topGoneRow.domain false Rows.topGoneRow.laid) (((OpenSpec.ofChange Rows.topGoneSpec).at F).post enc Tryz.prog Tryz.f3 false true false false):=by
 obtain ⟨places,hx⟩:=reads os enc;refine returnsInHanded_of_row (C:=Tryz.checked) (s:=OpenSpec.ofChange Rows.topGoneSpec) ownV started (by kernel_rfl) Tryz.func3
  (witness_row_at (enc:=enc) (C:=Tryz.checked) false (setWorld os) #[.agg #[.slice none 0 0,.int .u64 0,.int .i64 0,.slice none 0 0,.int .i64 0],.slice none 0 0,.agg #[.string ⟨#[]⟩,.int .i64 0,.slice none 0 0]] rfl (by kernel_rfl) (by kernel_rfl) (by kernel_rfl)
   (OpenSpec.preRow_of_cond 8 hx (by kernel_rfl) (fun k hk=>by cases hk) (by kernel_rfl) (laid_met os))) ?_
 intro W base args ds gs before hval hW _ _ _ hla hsh _;exact contract H enc W base args ds gs before hval hW hsh hla
theorem j_inPlace:(Rows.topGoneRow.inPlace == Tryz.prog.inPlace 3)=true:=by kernel_rfl
theorem j_unfollowed:(Rows.topGoneRow.unfollowed == Tryz.prog.unfollowed 3)=true:=by kernel_rfl
theorem j_recurses:(Rows.topGoneRow.recurses == Tryz.prog.recurses 3)=true:=by kernel_rfl
theorem j_named:(Rows.topGoneRow.named == Tryz.prog.varsNamed 3)=true:=by kernel_rfl
theorem closed:joinedFacts Tryz.prog 3 Tryz.f3 (OpenSpec.ofChange Rows.topGoneSpec).bare Rows.topGoneRow=true:=by
 unfold joinedFacts;rw [j_inPlace,j_unfollowed,j_recurses,j_named]
 kernel_rfl
theorem said:Rows.TopGoneSaid:=
 OpenClaim.holds_of_cond 3 Tryz.f3 rfl rfl rfl rfl rfl rfl rfl ⟨rfl,rfl,rfl,rfl,rfl⟩ rfl rfl rfl rfl rfl (by kernel_rfl) Tryz.func3 closed
  (of_decide_eq_true (by kernel_rfl)) (by unfold Func.isWrapper;first|(rw [if_pos (by decide +kernel)];kernel_rfl)|(rw [if_neg (by decide +kernel)];exact ⟨rfl,rfl⟩))
  (fun os started H enc _ F=>by rw [OpenClaim.pre_eq_preRow];exact lifted os started H enc F)
theorem plain (f : FuncId) (fn : Func) (hf : Tryz.pinned.checked.prog.funcNamed "ostlery/ostlerytop.TopGone" = some f) (hfn : Tryz.pinned.checked.prog.funcs[f]? = some fn) :
  true=Tryz.pinned.checked.prog.looks []∧∀ (j:Nat) t,fn.params[j]?=some t→Tryz.pinned.checked.prog.wantsStandIn t=false:=by
 obtain rfl : f = 3 := Option.some.inj ((show Tryz.prog.funcNamed "ostlery/ostlerytop.TopGone" = some 3 by kernel_rfl).symm.trans hf) |>.symm
 obtain rfl:fn=Tryz.f3:=(Option.some.inj (Tryz.func3.symm.trans hfn)).symm;refine ⟨by kernel_rfl,fun j t ht=>?_⟩;rw [Tryz.params3] at ht
 have:t=27∨t=28∨t=31:=by simpa using Array.mem_of_getElem? ht
 rcases this with rfl|rfl|rfl
 ·exact (show Tryz.prog.wantsStandIn 27=false by kernel_rfl)
 ·exact (show Tryz.prog.wantsStandIn 28=false by kernel_rfl)
 ·exact (show Tryz.prog.wantsStandIn 31=false by kernel_rfl)
theorem card:Rows.TopGoneCardSaid:=
 Claim7.holds_tied_plain_at .later [] _ _ _ _ said (fun _ h=>by cases h) (by kernel_rfl) (fun _ h=>by cases h) topGone_row_tie rfl ⟨rfl,rfl⟩ (by kernel_rfl) rfl plain (by kernel_rfl)
end topGone
section
theorem topGone_card:Rows.TopGoneCardSaid:=topGone.card
end
end Go.Proofs.YtbfdcmodflnkfaaGreatDoor
