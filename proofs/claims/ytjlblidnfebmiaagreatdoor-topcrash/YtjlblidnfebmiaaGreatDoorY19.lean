import Derived.Test.YtjlblidnfebmiaaGreatDoorY18
set_option maxRecDepth 100000
set_option maxHeartbeats 16000000
open Go Go.RowKit Go.Shelf
attribute [local go_sem] Oper.semAt_some
open Go.Proofs.Tryz
namespace Go.Proofs.YtjlblidnfebmiaaGreatDoor
variable{B N b base bc g k l nc nn q vc vn wc:Nat}{K R:Act->World->Prop}{P:Nat->Value}{Q:Exit->Act->World->Prop}{V W w:World}{a:Act}{c1 c11 c13 c14 c15 c16 c17 c18 c19 c2 c20 c21 c22 c23 c24 c25 c26 c27 c28 c29 c3 c30 c31 c32 c33 c34 c35 c36 c37 c38 c39 c4 c40 c41 c42 c43 c44 c45 c46 c47 c48 c49 c5 c50 c51 c52 c53 c54 c55 c56 c57 c58 c59 c6 c60 c61 c62 c63 c64 c65 c66 c67 c68 c7 c8 c91 v v0 v1 v2 v3 v4 v5 z0 z1 z5:Value}{cs:Array Value}{m n:Int}{na va:Option Addr}{p:Bool}{t ty:TypeId}{ws:List (List UInt8)}{x y:ByteArray}{xs:List Value}
def qN (w:World) (b:Nat) (ws:List (List UInt8)):Prop:=b<w.heap.size/\∀k,k<ws.length->w.cell? ⟨b,k,none⟩=some (.string ⟨(au ws k).toArray⟩)
theorem qN.below{w':World}(h:qN w b ws)(a:Bw w w'):qN w' b ws:=
 ⟨Q1 h.1 a.size,λk c=>(a.cell (p:=⟨b,k,none⟩) h.1).trans (h.2 k c)⟩
theorem DB(h:k<ws.length):au ws k∈ws:=by simp[au,h]
theorem DC{b:Nat}(wc:Nat){ws:List (List UInt8)}{w:World}(h:qN w b ws)(d:ws.length=3)(hs:∀x∈ws,x.length<=10000) :
  CB 192 #[.slice b 3 wc] w (.tuple #[.agg #[.string ⟨(au ws 1).toArray⟩,(nOf (au ws 2):Int),()],.bool (gOf (au ws 2))]):=by
 have Ha:=qI ((Q0 w w).alloc (lR) (.cells #[.string ⟨#[]⟩,(0:Int),()] 49));have a:=Ha.o;have c1:=((h.below a).2 1 (by omega));have c2:=((h.below a).2 2 (by omega));have c:=qI λW=>sC ⟨(au ws 2).toArray⟩ W (by have:=hs _ (DB (ws:=ws) (k:=2) (by omega));unfold maxLen;show (au ws 2).length<=_;omega);rw[show (ByteArray.mk (au ws 2).toArray).data.toList=au ws 2 by simp] at c;generalize nOf (au ws 2)=n at *;generalize gOf (au ws 2)=g at *;generalize au ws 1=x at *;generalize au ws 2=y at *;clear h hs d a
 go_enter func192,ntmps192
 go_wp2
 refine (c.o _).e ?_
 go_wp2
 (try simp only[Exit.inBlock,Exit.then]);refine bodyPost_ret (v:=.tuple #[.agg #[.string ⟨x.toArray⟩,(n:Int),()],g]) ?_ rfl ⟨rfl,(Q0 _ _).alloc (lR) _⟩;rw[results_cell_tmp rfl];go_simp
def mG:Code->List Code
 | .seq a b=>mG a++mG b
 | .cond _ a b=>mG a++mG b
 | .block _ c=>mG c
 | .scope c=>mG c
 | .loop c=>mG c
 | .region i o d=>[.region i o d]
 | _=>[]
def FrV (G:(Nat->Value)->Act) (P:(Nat->Value)->World->Prop) (a:Act) (w:World):Prop:=∃F,a=G F/\P F w
theorem FrV.mk{G:(Nat->Value)->Act}{P:(Nat->Value)->World->Prop}(h:a=G (λn=>a.tmps.getD n undef))(b:P (λn=>a.tmps.getD n undef) w):FrV G P a w:=⟨_,h,b⟩
theorem bd(h:W.heap[g]?=some (.cells cs t (0,0)))(i:Nat)(v:Value):(W.setCell ⟨g,i,none⟩ v).heap[g]?=some (.cells (cs.setIfInBounds i v) t (0,0)):=by
 obtain⟨Ha,a⟩:=gS h
 show (W.heap.modify g _)[g]?=_
 rw[Array.getElem?_eq_getElem (by grind),Array.getElem_modify_self,a];rfl
theorem DD(h:Below N w.drew V):Below N w V:=⟨h.os,h.tape,h.output,h.size,h.block⟩
theorem cell_far{j i:Nat}{u:Value}(h:W.cell? ⟨b,j,none⟩=some u)(c:b≠g):(W.setCell ⟨g,i,none⟩ v).cell? ⟨b,j,none⟩=some u:=
 (World.cell?_of_block (a:=⟨b,j,none⟩) (Below.heap_setCell W ⟨g,i,none⟩ v b c)).trans h
def mH (R:Act->World->Prop):Exit->Act->World->Prop
 | .normal,a,w=>R a w
 | _,_,_=>False
theorem mH.mk(h:R a w):mH R .normal a w:=h
theorem DE{P:Program}{c:Code}{a:Act}{w:World}(h:Code.wp P c (mH R) a w)(b:∀a w,R a w->Q .normal a w):Code.wp P c Q a w:=
 wp_mono h λe a w h=>by
  cases e with
  | normal=>exact b _ _ h
  | _=>exact h.elim
noncomputable def DF:Code:=((Tryz.f193.body.map mG).getD []).getD 1 .skip
theorem Pg(w:World)(j:b<w)(l:w.cell? ⟨b,2,none⟩=some (.string x))(k:w.cell? ⟨b,3,none⟩=some (.string y))
  (h:Hu (∀W,CB 248 #[x,y] W (.tuple #[.agg #[(m:Int),(n:Int)],p]))) :
  Code.wp prog DF (mH (FrV (λF=>{ tmps:=List.toArray (Value.slice b 9 wc :: undef :: P 2 :: P 3 :: P 4 :: F 5 :: F 6 :: undef :: undef :: undef :: undef :: undef :: undef :: undef :: undef :: undef :: undef :: F 17 :: F 18 :: F 19 :: F 20 :: F 21 :: F 22 :: F 23 :: F 24 :: F 25 :: F 26 :: undef :: undef :: undef :: undef :: undef :: undef :: undef :: undef :: undef :: undef :: undef :: undef :: undef :: undef :: undef :: undef :: undef :: undef :: undef :: undef :: undef :: undef :: undef :: undef :: undef :: undef :: undef :: undef :: undef :: undef :: undef :: undef :: undef :: undef :: undef :: undef :: undef :: undef :: undef :: undef :: undef :: undef :: undef :: undef :: undef :: undef :: undef :: undef :: undef :: undef :: undef :: undef :: undef :: undef :: undef :: undef :: []),defers:=[] }) λF W'=>∃B,F 5=.pointer (some ⟨B,0,none⟩)/\F 6=.bool p/\Bw w W'/\w.heap.size<=B/\W'.heap[B]?=some (.cells #[(m:Int),(n:Int)] 62 (0,0))))
   { tmps:=List.toArray (Value.slice b 9 wc :: undef :: P 2 :: P 3 :: P 4 :: undef :: undef :: undef :: undef :: undef :: undef :: undef :: undef :: undef :: undef :: undef :: undef :: undef :: undef :: undef :: undef :: undef :: undef :: undef :: undef :: undef :: undef :: undef :: undef :: undef :: undef :: undef :: undef :: undef :: undef :: undef :: undef :: undef :: undef :: undef :: undef :: undef :: undef :: undef :: undef :: undef :: undef :: undef :: undef :: undef :: undef :: undef :: undef :: undef :: undef :: undef :: undef :: undef :: undef :: undef :: undef :: undef :: undef :: undef :: undef :: undef :: undef :: undef :: undef :: undef :: undef :: undef :: undef :: undef :: undef :: undef :: undef :: undef :: undef :: undef :: undef :: undef :: undef :: []),defers:=[] } w:=by
 conv=>enter [2];unfold DF;whnf
 have f:Hu (w.drew.cell? ⟨b,2,none⟩=some (.string x)/\w.drew.cell? ⟨b,3,none⟩=some (.string y)):=qI ⟨l,k⟩;have g:=qI j;clear l k j;refine wp_region_held_drew (S:=(λw'=>w'.cell? ⟨b,2,none⟩=some (.string x)/\w'.cell? ⟨b,3,none⟩=some (.string y))) (by kernel_rfl) f λd=>?_;refine tk 0 ?_;refine tk 1 ?_;refine tk 2 ?_;refine tk 3 ?_;refine tk 4 ?_;refine tk 5 ?_;refine rd2 6 10 (λK a=>?o6) λK a=>?o10
 case o6=>
  go_simp
  go_wp2_with fail
  refine (h.o _).m λc Ha=>?_;have Hc:=qI Ha;have Hb:=qI (show c.cell? ⟨b,2,none⟩=some (.string x)/\c.cell? ⟨b,3,none⟩=some (.string y) from⟨(Ha.cell (p:=⟨b,2,none⟩) g).trans f.o.1,(Ha.cell (p:=⟨b,3,none⟩) g).trans f.o.2⟩);clear Ha
  go_wp2_with fail
  refine a.k Hb λd=>?_;refine tk 7 ?_;refine tk 8 ?_;refine tk 9 ?_;refine rd 10 λK a=>?_;go_simp
  go_wp2_with fail
  refine a.o _ _ ⟨dI Hb.o.1 (.cells #[(0:Int),(0:Int)] 62),dI Hb.o.2 (.cells #[(0:Int),(0:Int)] 62)⟩ λd=>?_;clear a K;refine rd 11 λK a=>?_;go_simp
  go_wp2_with fail
  refine a.o _ _ ⟨dI Hb.o.1 (.cells #[(m:Int),(n:Int)] 62),dI Hb.o.2 (.cells #[(m:Int),(n:Int)] 62)⟩ λd=>?_;clear a K;refine tk 12 ?_;refine Qn (by kernel_rfl) ?_ _;refine mH.mk (FrV.mk (by kernel_rfl) ?_);refine⟨c,rfl,rfl,?_,?_,?_⟩
  ·exact (DD Hc).alloc Hc.o.size _
  ·exact Hc.o.size
  ·exact heap_alloc_new c _
 case o10=>
  go_simp
  go_wp2_with fail
  have Hf:=qI (show Bw w (w.alloc (.cells #[(0:Int),(0:Int)] 62)).drew from jX ((Q0 w w).alloc (lR) (.cells #[(0:Int),(0:Int)] 62)));have Hk:=qI (show (w.alloc (.cells #[(0:Int),(0:Int)] 62)).drew.cell? ⟨b,2,none⟩=some (.string x)/\(w.alloc (.cells #[(0:Int),(0:Int)] 62)).drew.cell? ⟨b,3,none⟩=some (.string y) from⟨dI f.o.1 (.cells #[(0:Int),(0:Int)] 62),dI f.o.2 (.cells #[(0:Int),(0:Int)] 62)⟩);have Hm:(w.alloc (.cells #[(0:Int),(0:Int)] 62)).drew.heap[w.heap.size]?=some (.cells #[(0:Int),(0:Int)] 62):=heap_alloc_new w _;have Hg:w.heap.size<(w.alloc (.cells #[(0:Int),(0:Int)] 62)).drew.heap.size:=by simp
  have He:=Nat.lt_trans g Hg;refine a.k Hk λd=>?_;generalize (w.alloc (.cells #[(0:Int),(0:Int)] 62)).drew=r at *;refine rd 6 λK a=>?_;go_simp
  go_wp2_with fail
  refine (h.o _).m λc Ha=>?_;have Hc:=qI Ha;have Hb:=qI (show c.cell? ⟨b,2,none⟩=some (.string x)/\c.cell? ⟨b,3,none⟩=some (.string y) from⟨(Ha.cell (p:=⟨b,2,none⟩) He).trans Hk.o.1,(Ha.cell (p:=⟨b,3,none⟩) He).trans Hk.o.2⟩);clear Ha
  go_wp2_with fail
  refine a.k Hb λd=>?_;refine tk 7 ?_;refine tk 8 ?_;refine tk 9 ?_;have Hi:=(Hc.o.block _ Hg).trans Hm;have Hj:=bd Hi 0 (m:Int);have Hl:=bd Hj 1 (n:Int);have o:c.cell? w=some (.int .i64 0):=by simp[World.cell?,Hi]
  have f0:c.frozen? w=false:=by simp[World.frozen?,Hi]
  have q:(c.setCell w (m:Int)).cell? ⟨w,1,none⟩=some (.int .i64 0):=by simp[World.cell?,Hj]
  have f1:(c.setCell w (m:Int)).frozen? ⟨w,1,none⟩=false:=by simp[World.frozen?,Hj]
  have Hh:b≠w:=by have:=g.o;omega
  have Ho:=qI (And.intro (cell_far (cell_far Hb.o.1 (i:=0) (v:=.int .i64 m) Hh) (i:=1) (v:=.int .i64 n) Hh) (cell_far (cell_far Hb.o.2 (i:=0) (v:=.int .i64 m) Hh) (i:=1) (v:=.int .i64 n) Hh));have Hn:=qI Hl;clear Hi Hj Hl Hm Hh;refine rd 11 λK a=>?_;go_simp
  go_wp2_with fail
  refine a.k Ho λd=>?_;refine tk 12 ?_;refine Qn (by kernel_rfl) ?_ _;refine mH.mk (FrV.mk (by kernel_rfl) ?_);refine⟨w,rfl,rfl,?_,lR,Hn⟩;exact (((Hf.o.trans (Hc.o.mono Hf.o.size)).setCell (p:=w.heap.size) (lR) _).setCell (p:=⟨w,1,none⟩) (lR) _)
noncomputable def DG:Code:=((Tryz.f193.body.map mG).getD []).getD 2 .skip
theorem Ph(w:World)(j:b<w)(l:w.cell? ⟨b,4,none⟩=some (.string x))(k:w.cell? ⟨b,5,none⟩=some (.string y))
  (h:Hu (∀W,CB 248 #[x,y] W (.tuple #[.agg #[(m:Int),(n:Int)],p]))) :
  Code.wp prog DG (mH (FrV (λF=>{ tmps:=List.toArray (Value.slice b 9 wc :: undef :: P 2 :: P 3 :: P 4 :: P 5 :: P 6 :: F 7 :: F 8 :: undef :: undef :: undef :: undef :: undef :: undef :: undef :: undef :: P 17 :: P 18 :: P 19 :: P 20 :: P 21 :: P 22 :: P 23 :: P 24 :: P 25 :: P 26 :: F 27 :: F 28 :: F 29 :: F 30 :: F 31 :: F 32 :: F 33 :: F 34 :: F 35 :: F 36 :: undef :: undef :: undef :: undef :: undef :: undef :: undef :: undef :: undef :: undef :: undef :: undef :: undef :: undef :: undef :: undef :: undef :: undef :: undef :: undef :: undef :: undef :: undef :: undef :: undef :: undef :: undef :: undef :: undef :: undef :: undef :: undef :: undef :: undef :: undef :: undef :: undef :: undef :: undef :: undef :: undef :: undef :: undef :: undef :: undef :: undef :: []),defers:=[] }) λF W'=>∃B,F 7=.pointer (some ⟨B,0,none⟩)/\F 8=.bool p/\Bw w W'/\w.heap.size<=B/\W'.heap[B]?=some (.cells #[(m:Int),(n:Int)] 62 (0,0))))
   { tmps:=List.toArray (Value.slice b 9 wc :: undef :: P 2 :: P 3 :: P 4 :: P 5 :: P 6 :: undef :: undef :: undef :: undef :: undef :: undef :: undef :: undef :: undef :: undef :: P 17 :: P 18 :: P 19 :: P 20 :: P 21 :: P 22 :: P 23 :: P 24 :: P 25 :: P 26 :: undef :: undef :: undef :: undef :: undef :: undef :: undef :: undef :: undef :: undef :: undef :: undef :: undef :: undef :: undef :: undef :: undef :: undef :: undef :: undef :: undef :: undef :: undef :: undef :: undef :: undef :: undef :: undef :: undef :: undef :: undef :: undef :: undef :: undef :: undef :: undef :: undef :: undef :: undef :: undef :: undef :: undef :: undef :: undef :: undef :: undef :: undef :: undef :: undef :: undef :: undef :: undef :: undef :: undef :: undef :: undef :: []),defers:=[] } w:=by
 conv=>enter [2];unfold DG;whnf
 have f:Hu (w.drew.cell? ⟨b,4,none⟩=some (.string x)/\w.drew.cell? ⟨b,5,none⟩=some (.string y)):=qI ⟨l,k⟩;have g:=qI j;clear l k j;refine wp_region_held_drew (S:=(λw'=>w'.cell? ⟨b,4,none⟩=some (.string x)/\w'.cell? ⟨b,5,none⟩=some (.string y))) (by kernel_rfl) f λd=>?_;refine tk 0 ?_;refine tk 1 ?_;refine tk 2 ?_;refine tk 3 ?_;refine tk 4 ?_;refine tk 5 ?_;refine rd2 6 10 (λK a=>?o6) λK a=>?o10
 case o6=>
  go_simp
  go_wp2_with fail
  refine (h.o _).m λc Ha=>?_;have Hc:=qI Ha;have Hb:=qI (show c.cell? ⟨b,4,none⟩=some (.string x)/\c.cell? ⟨b,5,none⟩=some (.string y) from⟨(Ha.cell (p:=⟨b,4,none⟩) g).trans f.o.1,(Ha.cell (p:=⟨b,5,none⟩) g).trans f.o.2⟩);clear Ha
  go_wp2_with fail
  refine a.k Hb λd=>?_;refine tk 7 ?_;refine tk 8 ?_;refine tk 9 ?_;refine rd 10 λK a=>?_;go_simp
  go_wp2_with fail
  refine a.o _ _ ⟨dI Hb.o.1 (.cells #[(0:Int),(0:Int)] 62),dI Hb.o.2 (.cells #[(0:Int),(0:Int)] 62)⟩ λd=>?_;clear a K;refine rd 11 λK a=>?_;go_simp
  go_wp2_with fail
  refine a.o _ _ ⟨dI Hb.o.1 (.cells #[(m:Int),(n:Int)] 62),dI Hb.o.2 (.cells #[(m:Int),(n:Int)] 62)⟩ λd=>?_;clear a K;refine tk 12 ?_;refine Qn (by kernel_rfl) ?_ _;refine mH.mk (FrV.mk (by kernel_rfl) ?_);refine⟨c,rfl,rfl,?_,?_,?_⟩
  ·exact (DD Hc).alloc Hc.o.size _
  ·exact Hc.o.size
  ·exact heap_alloc_new c _
 case o10=>
  go_simp
  go_wp2_with fail
  have Hf:=qI (show Bw w (w.alloc (.cells #[(0:Int),(0:Int)] 62)).drew from jX ((Q0 w w).alloc (lR) (.cells #[(0:Int),(0:Int)] 62)));have Hk:=qI (show (w.alloc (.cells #[(0:Int),(0:Int)] 62)).drew.cell? ⟨b,4,none⟩=some (.string x)/\(w.alloc (.cells #[(0:Int),(0:Int)] 62)).drew.cell? ⟨b,5,none⟩=some (.string y) from⟨dI f.o.1 (.cells #[(0:Int),(0:Int)] 62),dI f.o.2 (.cells #[(0:Int),(0:Int)] 62)⟩);have Hm:(w.alloc (.cells #[(0:Int),(0:Int)] 62)).drew.heap[w.heap.size]?=some (.cells #[(0:Int),(0:Int)] 62):=heap_alloc_new w _;have Hg:w.heap.size<(w.alloc (.cells #[(0:Int),(0:Int)] 62)).drew.heap.size:=by simp
  have He:=Nat.lt_trans g Hg;refine a.k Hk λd=>?_;generalize (w.alloc (.cells #[(0:Int),(0:Int)] 62)).drew=r at *;refine rd 6 λK a=>?_;go_simp
  go_wp2_with fail
  refine (h.o _).m λc Ha=>?_;have Hc:=qI Ha;have Hb:=qI (show c.cell? ⟨b,4,none⟩=some (.string x)/\c.cell? ⟨b,5,none⟩=some (.string y) from⟨(Ha.cell (p:=⟨b,4,none⟩) He).trans Hk.o.1,(Ha.cell (p:=⟨b,5,none⟩) He).trans Hk.o.2⟩);clear Ha
  go_wp2_with fail
  refine a.k Hb λd=>?_;refine tk 7 ?_;refine tk 8 ?_;refine tk 9 ?_;have Hi:=(Hc.o.block _ Hg).trans Hm;have Hj:=bd Hi 0 (m:Int);have Hl:=bd Hj 1 (n:Int);have o:c.cell? w=some (.int .i64 0):=by simp[World.cell?,Hi]
  have f0:c.frozen? w=false:=by simp[World.frozen?,Hi]
  have q:(c.setCell w (m:Int)).cell? ⟨w,1,none⟩=some (.int .i64 0):=by simp[World.cell?,Hj]
  have f1:(c.setCell w (m:Int)).frozen? ⟨w,1,none⟩=false:=by simp[World.frozen?,Hj]
  have Hh:b≠w:=by have:=g.o;omega
  have Ho:=qI (And.intro (cell_far (cell_far Hb.o.1 (i:=0) (v:=.int .i64 m) Hh) (i:=1) (v:=.int .i64 n) Hh) (cell_far (cell_far Hb.o.2 (i:=0) (v:=.int .i64 m) Hh) (i:=1) (v:=.int .i64 n) Hh));have Hn:=qI Hl;clear Hi Hj Hl Hm Hh;refine rd 11 λK a=>?_;go_simp
  go_wp2_with fail
  refine a.k Ho λd=>?_;refine tk 12 ?_;refine Qn (by kernel_rfl) ?_ _;refine mH.mk (FrV.mk (by kernel_rfl) ?_);refine⟨w,rfl,rfl,?_,lR,Hn⟩;exact (((Hf.o.trans (Hc.o.mono Hf.o.size)).setCell (p:=w.heap.size) (lR) _).setCell (p:=⟨w,1,none⟩) (lR) _)
theorem Pi{fn:Func}{p q u:Tmp}{c:TypeId}(h:fn.results=#[.cell p ty,.cell q c,.tmp u])(tmps:Array Value)(P:Program)(w:World) :
  (results fn tmps).run P w =
   ((asAddr (tmps.getD p undef)).run P w).andThen λa e=>((loadVar ty a).run P e).andThen λv f=>((asAddr (tmps.getD q undef)).run P f).andThen λb g=>((loadVar c b).run P g).andThen λx d=>.ok (.tuple #[v,x,tmps.getD u undef]) d:=by
 simp_all[results]
def okC (ws:List (List UInt8)):Bool:=(((gOf (au ws 2) && gOf (au ws 3)) && (gOf (au ws 4) && gOf (au ws 5))) && (cG cP (au ws 6)).isSome && kI (au ws 7)) && (cG cB (au ws 8)).isSome
def jw (V:World) (B:Nat) (v0 v1 v2 v3 v4 v5:Value):World:=(((((V.setCell B v0).setCell ⟨B,1,none⟩ v1).setCell ⟨B,2,none⟩ v2).setCell ⟨B,3,none⟩ v3).setCell ⟨B,4,none⟩ v4).setCell ⟨B,5,none⟩ v5
def put2 (V:World) (B:Nat) (v0 v1:Value):World:=(V.setCell B v0).setCell ⟨B,1,none⟩ v1
theorem set_other{j:Nat}(h:k≠B):(V.setCell ⟨B,j,none⟩ v).heap[k]?=V.heap[k]?:=Below.heap_setCell V ⟨B,j,none⟩ v k h
theorem yf(h:k≠B):(jw V B v0 v1 v2 v3 v4 v5).heap[k]?=V.heap[k]?:=by
 simp_all[jw,set_other]
theorem yh(h:k≠B):(put2 V B v0 v1).heap[k]?=V.heap[k]?:=by
 grind[put2,set_other]
theorem Pj{a v2 v3 v4 z1 z2 z3 z4:Value}(h:V.heap[B]?=some (.cells #[z0,z1,z2,z3,z4,z5] t (0,0))):(jw V B v0 a v2 v3 v4 v5).heap[B]?=some (.cells #[v0,a,v2,v3,v4,v5] t (0,0)):=
 bd (bd (bd (bd (bd (bd h 0 v0) 1 a) 2 v2) 3 v3) 4 v4) 5 v5
theorem Pk(h:V.heap[B]?=some (.cells #[z0,z1] t (0,0))):(put2 V B v0 v1).heap[B]?=some (.cells #[v0,v1] t (0,0)):=
 bd (bd h 0 v0) 1 v1
theorem Pm(h:Below N w V)(a:N<=B):Below N w (jw V B v0 v1 v2 v3 v4 v5):=
 (((((h.setCell (p:=B) a _).setCell (p:=⟨B,1,none⟩) a _).setCell (p:=⟨B,2,none⟩) a _).setCell (p:=⟨B,3,none⟩) a _).setCell (p:=⟨B,4,none⟩) a _).setCell (p:=⟨B,5,none⟩) a _
theorem Pn:Apart (λj=>j=B) V (jw V B v0 v1 v2 v3 v4 v5):=
 (((((Apart.setCell (K:=λj=>j=B) rfl V 0 v0).trans (Apart.setCell (K:=λj=>j=B) rfl _ 1 v1)).trans (Apart.setCell (K:=λj=>j=B) rfl _ 2 v2)).trans (Apart.setCell (K:=λj=>j=B) rfl _ 3 v3)).trans (Apart.setCell (K:=λj=>j=B) rfl _ 4 v4)).trans (Apart.setCell (K:=λj=>j=B) rfl _ 5 v5)
theorem Po{H:Nat}:Apart (λj=>j=H\/j=H+1) V (put2 V (H+1) v0 v1):=
 (Apart.setCell (K:=λj=>j=H\/j=H+1) (.inr rfl) V 0 v0).trans (Apart.setCell (K:=λj=>j=H\/j=H+1) (.inr rfl) _ 1 v1)
theorem Pp(h:Below N w V)(a:N<=B):Below N w (put2 V B v0 v1):=(h.setCell (p:=B) a _).setCell (p:=⟨B,1,none⟩) a _
theorem Pq{p:Nat}{nm:ByteArray}{n2 d e f:Int}{z1 z2 z3 z4:Value}{pos:String}{after:Array Edge}{guard:Option (Nat × Bool)} 
  (b:W.heap[B]?=some (.cells #[z0,z1,z2,z3,z4,z5] 65 (0,0))) (i:a.tmps[p]?.getD undef=.pointer (some ⟨B,0,none⟩)) (k:a.tmps[q]?.getD undef=.agg #[nm,n2,d,e,f,.slice na nn nc])
  (c:K a (jw W B nm n2 d e f (.slice na nn nc))) :
  Oper.wp prog { dst:=none,op:=Op.store 65 (Operand.tmp p) (Operand.tmp q),type:=ty,pos:=pos,after:=after,guard:=guard } a W K Q:=by
 unfold jw at c;have g:=qI c;clear c;have c0:W.cell? B=some z0:=by simp[World.cell?,b]
 have c1:W.cell? ⟨B,1,none⟩=some z1:=by simp[World.cell?,b]
 have c2:W.cell? ⟨B,2,none⟩=some z2:=by simp[World.cell?,b]
 have c3:W.cell? ⟨B,3,none⟩=some z3:=by simp[World.cell?,b]
 have c4:W.cell? ⟨B,4,none⟩=some z4:=by simp[World.cell?,b]
 have c5:W.cell? ⟨B,5,none⟩=some z5:=by simp[World.cell?,b]
 have f0:W.frozen? B=false:=by simp[World.frozen?,b]
 have f1:W.frozen? ⟨B,1,none⟩=false:=by simp[World.frozen?,b]
 have f2:W.frozen? ⟨B,2,none⟩=false:=by simp[World.frozen?,b]
 have f3:W.frozen? ⟨B,3,none⟩=false:=by simp[World.frozen?,b]
 have j:W.frozen? ⟨B,4,none⟩=false:=by simp[World.frozen?,b]
 have h:W.frozen? ⟨B,5,none⟩=false:=by simp[World.frozen?,b]
 clear b;go_simp;exact g.o
theorem Pr{p:Nat}{cp:Nat}{pos:String}{after:Array Edge}{guard:Option (Nat × Bool)} 
  (b:W.heap[B]?=some (.cells #[z0,z1] 123 (0,0))) (e:a.tmps[p]?.getD undef=.pointer (some ⟨B,0,none⟩)) (f:a.tmps[q]?.getD undef=.agg #[.int .u64 cp,.slice na nn nc])
  (c:K a (put2 W B (.int .u64 cp) (.slice na nn nc))) :
  Oper.wp prog { dst:=none,op:=Op.store 123 (Operand.tmp p) (Operand.tmp q),type:=ty,pos:=pos,after:=after,guard:=guard } a W K Q:=by
 unfold put2 at c;have d:=qI c;clear c;have c0:W.cell? B=some z0:=by simp[World.cell?,b]
 have c1:W.cell? ⟨B,1,none⟩=some z1:=by simp[World.cell?,b]
 have f0:W.frozen? B=false:=by simp[World.frozen?,b]
 have f1:W.frozen? ⟨B,1,none⟩=false:=by simp[World.frozen?,b]
 clear b;go_simp;exact d.o
def yi (w:World) (ws:List (List UInt8)) (e:Ending) (w':World):Prop:=
 ∃nv dv,e=.returned (.tuple #[.agg #[.string ⟨(au ws 1).toArray⟩,(nOf (au ws 2):Int),(nOf (au ws 3):Int),(nOf (au ws 4):Int),(nOf (au ws 5):Int),nv],.agg #[.int .u64 (gZ (au ws 7):Nat),dv],.bool (okC ws)])/\
  (∀ds,cG cP (au ws 6)=some ds->bC w' nv ds)/\(∀xs,cG cB (au ws 8)=some xs->bK w' dv xs)/\(∃a n c,nv=.slice a n c/\∀x,a=some x->w.heap.size<=x.block)/\(∃a n c,dv=.slice a n c/\∀x,a=some x->w.heap.size<=x.block)/\Below w w w'
theorem ad(h:W.heap[B]?=some (.cells cs t (0,0)))(j:Nat):W.cell? ⟨B,j,none⟩=cs[j]?:=by simp[World.cell?,h]
abbrev kO:=(.cells #[.string ⟨#[]⟩,(0:Int),(0:Int),(0:Int),(0:Int),.slice none 0 0] 65:Obj)
abbrev pH:=λ(x0:Array UInt8) (x1 x2 x3 x4:Int) (x5:Option Addr) (x6 x7:Nat)=>(.cells #[.string ⟨x0⟩,x1,x2,x3,x4,.slice x5 x6 x7] 65 (0,0):Obj)
abbrev sN:=λ(x0:Array UInt8) (x1 x2 x3 x4:Int) (x5:Option Addr) (x6 x7:Nat)=>(.cells #[.string ⟨x0⟩,x1,x2,x3,x4,.slice x5 x6 x7] 65:Obj)
abbrev qO:=λ(x0:Int) (x1:Option Addr) (x2 x3:Nat)=>(.cells #[.int .u64 x0,.slice x1 x2 x3] 123 (0,0):Obj)
abbrev DH:=(.cells #[.string ⟨#[]⟩,(0:Int),(0:Int),(0:Int),(0:Int),.slice none 0 0] 65 (0,0):Obj)
abbrev yj:=(.cells #[.int .u64 0,.slice none 0 0] 123 (0,0):Obj)
theorem DI{b:Nat}(wc:Nat){ws:List (List UInt8)}{w:World}(h:qN w b ws)(hl:ws.length=9)(hs:∀x∈ws,x.length<=10000)(hm:dH w) :
  Calls pg 193 #[.slice b 9 wc] w (yi w ws):=by
 have Ha:∀k,k<9->(au ws k).length<=10000:=λk hk=>hs _ (DB (by omega))
 have Q:=((Q0 w w).alloc (lR) (kO)).alloc (by simp) (.cells #[.int .u64 0,()] 123);have R:=qI Q;have A:=qI (h.below Q);have Z:=qI hm;have R1:=qI λW=>CU ⟨(au ws 2).toArray⟩ ⟨(au ws 3).toArray⟩ W (by unfold maxLen;have:=Ha 2 (by omega);show (au ws 2).length<=_;omega) (by unfold maxLen;have:=Ha 3 (by omega);show (au ws 3).length<=_;omega);have R2:=qI λW=>CU ⟨(au ws 4).toArray⟩ ⟨(au ws 5).toArray⟩ W (by unfold maxLen;have:=Ha 4 (by omega);show (au ws 4).length<=_;omega) (by unfold maxLen;have:=Ha 5 (by omega);show (au ws 5).length<=_;omega);have T:=qI λW (hb:Bw w W)=>Nv ⟨(au ws 6).toArray⟩ (by have:=Ha 6 (by omega);show (au ws 6).length<=_;omega) (Z.o.below hb);have R4:=qI λW (hb:Bw w W)=>M8 ⟨(au ws 7).toArray⟩ (by unfold maxLen;have:=Ha 7 (by omega);show (au ws 7).length<=_;omega) (Z.o.below hb);have R5:=qI λW=>Ni ⟨(au ws 8).toArray⟩ W (by have:=Ha 8 (by omega);show (au ws 8).length<=_;omega);have hH:((w.alloc (kO)).alloc (.cells #[.int .u64 0,()] 123)).heap.size=w.heap.size+1+1:=by simp
 have H0:=qI (show ((w.alloc (kO)).alloc (.cells #[.int .u64 0,()] 123)).heap[w.heap.size]?=some (DH) from (Below.heap_alloc _ _ _ (by simp)).trans (heap_alloc_new w _));have HY:=qI (show ((w.alloc (kO)).alloc (.cells #[.int .u64 0,()] 123)).heap[w.heap.size+1]?=some (yj) from by have:=heap_alloc_new (w.alloc (kO)) (.cells #[.int .u64 0,()] 123);rwa [World.size_alloc] at this);have hy:Hu (okC ws=((((gOf (au ws 2) && gOf (au ws 3)) && (gOf (au ws 4) && gOf (au ws 5))) && (cG cP (au ws 6)).isSome && kI (au ws 7)) && (cG cB (au ws 8)).isSome)):=rfl;dsimp only at R1 R2 T R4 R5;clear Q h hs hm Ha
 go_enter func193,ntmps193
 go_wp2
 generalize ((w.alloc (kO)).alloc (.cells #[.int .u64 0,()] 123))=U at *;refine DE (Pg (P:=fun|2=>.pointer (some ⟨w,0,none⟩)|3=>.pointer (some ⟨w.heap.size+1,0,none⟩)|_=>.bool false) U A.o.1 (A.o.2 2 (by omega)) (A.o.2 3 (by omega)) R1) ?_;rintro _ W1 ⟨F,rfl,B1,HZ,ha,I,hJ,Ho⟩;have HQ:=qI I;have HT:=qI Ho;have Hs:=qI (A.o.below I);have HR:=qI I.size;clear I Ho;dsimp only;rw[HZ,ha];clear HZ ha
 go_wp2
 refine DE (Ph (P:=fun|2=>.pointer (some ⟨w,0,none⟩)|3=>.pointer (some ⟨w.heap.size+1,0,none⟩)|4=>.bool false|5=>.pointer (some ⟨B1,0,none⟩)|6=>.bool (gOf (au ws 2) && gOf (au ws 3))|n=>F n) W1 Hs.o.1 (Hs.o.2 4 (by omega)) (Hs.o.2 5 (by omega)) R2) ?_;rintro _ X ⟨G,rfl,B2,hi,hc,D,hI,Hq⟩;have Hf:=HQ.t D;have Hk:=qI ((D.block B1 (gS HT).1).trans HT);have HJ:=qI Hq;have Ht:=qI (Hs.o.below D);clear D Hq HT HQ Hs;dsimp only;rw[hi,hc];clear hi hc;have Hb:=R.t Hf;have w6:=Ht.o.2 6 (by omega)
 go_wp2
 refine (T.o _ Hb).mono ?_;rintro e L ⟨nv,rfl,H3,⟨d,c,nc,rfl,he⟩,H⟩;have H1:=qI he;clear he;have ho:=qI H3;have J:=qI H;have Hz:=Hb.t H;have w7:=(Ht.o.below H).2 7 (by omega);clear H3 H w6
 go_wp2
 refine (R4.o _ Hz).m λW4 HO=>?_;have Hw:=J.t HO;have Hj:=qI HO;have w8:=(Ht.o.below Hw).2 8 (by omega);clear HO w7
 go_wp2
 refine (R5.o _).mono ?_;rintro e l ⟨hL,rfl,H8,⟨o,f,p,rfl,H2⟩,HN⟩;have hn:=qI H2;clear H2;have hF:=qI H8;have Hh:=Hw.t HN;have Hc:=Hj.t HN;have hB:=qI (show w+1<X.heap.size from Q1 (by omega) Hf.o.size);have hD:=qI (show X<=W4.heap.size from Hw.o.size);have hq:=qI (show w+1<L.heap.size from Q1 (Q1 (by omega) Hf.o.size) J.o.size);have He:=Hb.t Hh;have w1:=(Ht.o.below Hh).2 1 (by omega);have Ho:=(Hh.o.block B1 (gS Hk).1).trans Hk;have Hq:=(Hh.o.block B2 (gS HJ).1).trans HJ;have a0:=ad Ho 0;have Y:=ad Ho 1;have a2:=ad Hq 0;have a3:=ad Hq 1;have HL:=qI (((Hf.o.trans (Hh.o.mono Hf.o.size)).block w (by omega)).trans H0);have M:=qI (((Hf.o.trans (Hh.o.mono Hf.o.size)).block (w.heap.size+1) (by omega)).trans HY);clear H8 HN w8 Ho Hq Hf Hw Hj Hh Ht A Z H0 HY Hk HJ R Hb Hz R1 R2 T R4 R5;have ht:Hu (∃y,y=au ws 1):=⟨_,rfl⟩;generalize hp1:(gOf (au ws 2) && gOf (au ws 3))=z at *;generalize hp2:(gOf (au ws 4) && gOf (au ws 5))=C at *;generalize hp3:(cG cP (au ws 6)).isSome=p3 at *;generalize hp4:kI (au ws 7)=p4 at *;generalize hp5:(cG cB (au ws 8)).isSome=p5 at *;generalize u:au ws 1=g at *;generalize H6:nOf (au ws 2)=n2 at *;generalize HV:nOf (au ws 3)=i at *;generalize H4:nOf (au ws 4)=m at *;generalize hf:nOf (au ws 5)=q at *;generalize hg:gZ (au ws 7)=cp at *;have hC:=qI (And.intro u (And.intro H6 (And.intro HV (And.intro H4 (And.intro hf hg)))));clear ht u H6 HV H4 hf hg hp1 hp2 hp3 hp4 hp5;simp only[List.getElem?_toArray,List.getElem?_cons_zero,List.getElem?_cons_succ] at a0 Y a2 a3;have z1:=dI w1 (kO);have z2:=dI a0 (kO);have z3:=dI Y (kO);have z4:=dI a2 (kO);have z5:=dI a3 (kO)
 go_wp2
 go_region
 have HX:=qI (And.intro He (And.intro Hc (And.intro HL M)));clear z1 z2 z3 z4 z5 w1 a0 Y a2 a3
 go_wp2
 have Hp:Bw l ((l.alloc (sN g.toArray n2 i m q d c nc)).alloc (.cells #[.int .u64 cp,.slice o f p] 123)).drew:=jX (((Q0 _ _).alloc (lR) _).alloc (by simp) _);have H9:((l.alloc (sN g.toArray n2 i m q d c nc)).alloc (.cells #[.int .u64 cp,.slice o f p] 123)).drew.heap[l.heap.size]?=some (pH g.toArray n2 i m q d c nc):=(Below.heap_alloc _ _ _ (by simp)).trans (heap_alloc_new l _);have u:((l.alloc (sN g.toArray n2 i m q d c nc)).alloc (.cells #[.int .u64 cp,.slice o f p] 123)).drew.heap[l.heap.size+1]?=some (qO cp o f p):=by have:=heap_alloc_new (l.alloc (sN g.toArray n2 i m q d c nc)) (.cells #[.int .u64 cp,.slice o f p] 123);rwa [World.size_alloc] at this
 have H7:=qI (And.intro H9 u);have Hr:=He.t Hp;have Hv:=Hc.t Hp;have Hy:=qI Hp;have h5:=(gS M).1;have t:=qI ((Hp.block w (by omega)).trans HL);have Hn:=qI ((Hp.block (w.heap.size+1) h5).trans M);clear H9 u Hp HX HL M He Hc;generalize ((l.alloc (sN g.toArray n2 i m q d c nc)).alloc (.cells #[.int .u64 cp,.slice o f p] 123)).drew=r at *;have HS:=qI (show r.drew.heap[l.heap.size]?=some (pH g.toArray n2 i m q d c nc)/\r.drew.heap[l.heap.size+1]?=some (qO cp o f p) from H7.o);have H5:=qI (show r.drew.heap[w.heap.size]?=some (DH) from t.o);have hz:=qI (show r.drew.heap[w.heap.size+1]?=some (yj) from Hn.o);have hw:=qI (show Bw w r.drew from jX Hr);have hu:=qI (show Bw L r.drew from jX Hv);have hE:=qI (show Bw l r.drew from jX Hy);have h3:w+1<L.heap.size:=by have:=hq.o;omega
 clear H7 t Hn Hr Hv Hy;clear HR J;have Hn:Hu ((jw r.drew w (.string ⟨g.toArray⟩) (n2:Int) (i:Int) (m:Int) (q:Int) (.slice d c nc)).heap[w.heap.size+1]?=some (yj)):=(yf (by omega)).trans hz;have t:Hu ((jw r.drew w (.string ⟨g.toArray⟩) (n2:Int) (i:Int) (m:Int) (q:Int) (.slice d c nc)).heap[w.heap.size]?=some (pH g.toArray n2 i m q d c nc)):=Pj H5;have Hl:Hu (Bw w (jw r.drew w (.string ⟨g.toArray⟩) (n2:Int) (i:Int) (m:Int) (q:Int) (.slice d c nc))):=Pm hw (lR);have Hm:Hu (Apart (λj=>j=w.heap.size) r.drew (jw r.drew w (.string ⟨g.toArray⟩) (n2:Int) (i:Int) (m:Int) (q:Int) (.slice d c nc))):=Pn;have O:Hu ((λw'=>w'.heap[l.heap.size]?=some (pH g.toArray n2 i m q d c nc)/\w'.heap[l.heap.size+1]?=some (qO cp o f p)) (jw r.drew w (.string ⟨g.toArray⟩) (n2:Int) (i:Int) (m:Int) (q:Int) (.slice d c nc))):=⟨(yf (by omega)).trans HS.o.1,(yf (by omega)).trans HS.o.2⟩;obtain⟨s,HK⟩:∃P,P=(jw r.drew w (.string ⟨g.toArray⟩) (n2:Int) (i:Int) (m:Int) (q:Int) (.slice d c nc)):=⟨_,rfl⟩;rw[<- HK] at Hn t Hl Hm O;have HP:Hu ((put2 s (w.heap.size+1) (.int .u64 cp) (.slice o f p)).heap[w.heap.size+1]?=some (qO cp o f p)):=Pk Hn;have Hg:Hu ((put2 s (w.heap.size+1) (.int .u64 cp) (.slice o f p)).heap[w.heap.size]?=some (pH g.toArray n2 i m q d c nc)):=(yh (by omega)).trans t;have Hx:Hu (Bw w (put2 s (w.heap.size+1) (.int .u64 cp) (.slice o f p))):=Pp Hl (Nat.le_succ _);have Hi:Hu (Apart (λj=>j=w.heap.size\/j=w.heap.size+1) r.drew (put2 s (w.heap.size+1) (.int .u64 cp) (.slice o f p))):=(Hm.o.wide λ_=>.inl).trans Po;have hh:Hu ((λw'=>w'.heap[l.heap.size]?=some (pH g.toArray n2 i m q d c nc)/\w'.heap[l.heap.size+1]?=some (qO cp o f p)) (put2 s (w.heap.size+1) (.int .u64 cp) (.slice o f p))):=⟨(yh (by omega)).trans O.o.1,(yh (by omega)).trans O.o.2⟩;obtain⟨P8,V⟩:∃P,P=(put2 s (w.heap.size+1) (.int .u64 cp) (.slice o f p)):=⟨_,rfl⟩;rw[<- V] at HP Hg Hx Hi hh;have hr:=qI HK;have hG:=qI V;clear HK V Hl Hm;have hp:z=false\/(z=true/\C=false)\/(z=true/\C=true/\p3=false)\/(z=true/\C=true/\p3=true/\p4=false)\/(z=true/\C=true/\p3=true/\p4=true):=by grind
 rcases hp with rfl|⟨rfl,rfl⟩|⟨rfl,rfl,rfl⟩|⟨rfl,rfl,rfl,rfl⟩|⟨rfl,rfl,rfl,rfl⟩
 all_goals
  refine wp_region_held_drew (S:=(λw'=>w'.heap[l.heap.size]?=some (pH g.toArray n2 i m q d c nc)/\w'.heap[l.heap.size+1]?=some (qO cp o f p))) (by kernel_rfl) HS λhHeld=>?_;refine tq 0 (v:=.agg #[.string ⟨g.toArray⟩,(n2:Int),(i:Int),(m:Int),(q:Int),.slice d c nc]) (λw' a=>?_) ?_
  ·(try dsimp only at a);have q0:=ad a.1 0;have E:=ad a.1 1;have q2:=ad a.1 2;have q3:=ad a.1 3;have q4:=ad a.1 4;have q5:=ad a.1 5;simp only[List.getElem?_toArray,List.getElem?_cons_zero,List.getElem?_cons_succ] at q0 E q2 q3 q4 q5;go_simp;try rfl
  (try simp only[Act.put,s1,s2,s3]);refine tq 1 (v:=.agg #[.int .u64 cp,.slice o f p]) (λw' a=>?_) ?_
  ·(try dsimp only at a);have q0:=ad a.2 0;have E:=ad a.2 1;simp only[List.getElem?_toArray,List.getElem?_cons_zero,List.getElem?_cons_succ] at q0 E;go_simp;try rfl
  (try simp only[Act.put,s1,s2,s3]);refine tk 2 ?_;refine tk 3 ?_
  first|refine tk 4 ?_|refine ts 4 ?_
  refine tk 5 ?_;refine tk 6 ?_
  first|refine tk 7 ?_|refine ts 7 ?_
  refine tk 8 ?_;refine tk 9 ?_
  first|refine tk 10 ?_|refine ts 10 ?_
  refine tk 11 ?_;refine tk 12 ?_
  first|refine tk 13 ?_|refine ts 13 ?_
  refine tk 14 ?_;refine rd 15 λK B=>?_;rw[if_pos (by rfl)];refine Pq H5 rfl rfl ?_;rw[<- hr.o];refine B.k O λhHeld=>?_;refine rd 16 λK B=>?_;rw[if_pos (by rfl)];refine Pr Hn rfl rfl ?_;rw[<- hG.o];refine B.k hh λhHeld=>?_;refine tk 17 ?_;refine Qn (by kernel_rfl) ?_ _;have e0:=ad Hg 0;have e1:=ad Hg 1;have e2:=ad Hg 2;have e3:=ad Hg 3;have e4:=ad Hg 4;have e5:=ad Hg 5;have e6:=ad HP 0;have e7:=ad HP 1;simp only[List.getElem?_toArray,List.getElem?_cons_zero,List.getElem?_cons_succ] at e0 e1 e2 e3 e4 e5 e6 e7;clear hHeld
  go_wp2
  (try simp only[Exit.inBlock,Exit.then]);have h2:=hB.o;have h4:=hD.o;have hv:=hy.o
  simp at hv
  obtain⟨E,q2,q3,q4,q5,q6⟩:=hC.o;refine bodyPost_ret (v:=.tuple #[.agg #[.string ⟨g.toArray⟩,(n2:Int),(i:Int),(m:Int),(q:Int),.slice d c nc],.agg #[.int .u64 cp,.slice o f p],.bool (okC ws)]) ?_ rfl ⟨.slice d c nc,.slice o f p,?_,λds hd=>?_,λxs hd=>?_,⟨_,_,_,rfl,λx hx=>Q5 (by omega) (H1.o x hx)⟩,⟨_,_,_,rfl,λx hx=>Q5 (by omega) (hn.o x hx)⟩,Hx⟩
  ·rw[Pi rfl,hv];go_simp
  ·grind
  ·exact Nr (N:=X.heap.size) ((ho.o ds hd).below hu) ⟨_,_,_,rfl,H1⟩ Hi (λj hj=>by omega)
  ·exact ((hF.o xs hd).below hE).apart (N:=W4.heap.size) ⟨_,_,_,rfl,hn⟩ Hi (λj hj=>by omega)
def kP:Code->List Code
 | .seq a b=>kP a++kP b
 | .cond _ a b=>kP a++kP b
 | .block _ c=>kP c
 | .scope c=>kP c
 | .loop c=>kP c
 | .rangeFunc _ _ a b=>kP a++kP b
 | .region i o d=>[.region i o d]
 | _=>[]
def DJ (n:Nat) (l:List Code):Code:=(l.find? λc=>match c with|.region i _ _=>i == n|_=>false).getD .skip
theorem DK{a:Array Oper}(h:(a.toList.all λo=>match o.op with|.defer _=>false|_=>true)=true):∀(i:Nat) (o:Oper) c,a[i]?=some o->o.op≠Op.defer c:=by
 grind
theorem DL{A B:World}{r:Option Nat}(h:A.drew.grownBy B r):A.grownBy B r:=⟨h.os,h.tape,h.output,h.size,h.block⟩
theorem DM:(prog.info? 65).map (λi=>(i.zero,i.size,i.bytes))=some (some (.agg #[ByteArray.empty,(0:Int),(0:Int),(0:Int),(0:Int),()]),6,72):=by kernel_rfl
theorem DN:(prog.info? 123).map (λi=>(i.zero,i.size,i.bytes))=some (some (.agg #[.int .u64 0,()]),2,32):=by kernel_rfl
theorem Ps(w:World)(c:aF){dv:Value}{t:TypeId}:∀j u,(kK (c,dv))[j]?=some u->(w.alloc (.cells #[c.nm,(c.am:Int),(c.ab:Int),(c.cm:Int),(c.cb:Int),dv] t)).drew.cell? ((w.heap.size:Addr).add j)=some u:=by
 simp[Addr.add_lit,kK,eu]
theorem Pt(w:World)(c:aX){dv:Value}{t:TypeId}:∀j u,(jV (c,dv))[j]?=some u->(w.alloc (.cells #[.int .u64 c.cp,dv] t)).drew.cell? ((w.heap.size:Addr).add j)=some u:=by
 simp[Addr.add_lit,jV]
theorem Pu(c:aF)(a:Option Addr)(n k:Nat):∀u∈kK (c,.slice a n k),u.oneCell'=true:=by
 intro u b
 simp[kK,eu] at b
 rcases b with rfl|rfl|rfl|rfl|rfl|rfl <;> rfl
theorem Pv(c:aX)(a:Option Addr)(n k:Nat):∀u∈jV (c,.slice a n k),u.oneCell'=true:=by
 intro u b
 simp[jV] at b
 rcases b with rfl|rfl <;> rfl
noncomputable def DO:Code:=DJ 16 ((Tryz.f157.body.map kP).getD [])
abbrev sO:=λ(x0:aF) (x1:Option Addr) (x2 x3:Nat)=>(.cells #[.string x0.nm,.int .i64 x0.am,.int .i64 x0.ab,.int .i64 x0.cm,.int .i64 x0.cb,.slice x1 x2 x3] 65:Obj)
theorem Pw{c0 c10 j v t w o x u q y s J C A I z H G E M D L B:Value}{n m k:Nat}{c:aF}(W:World)(O:W.cell? ⟨m,k+2,none⟩=some (Value.slice va vn vc))(hf:W.frozen? ⟨m,k+2,none⟩=false)(U:W.cell? bc=some (.string c.nm))(Y:W.cell? ⟨bc,1,none⟩=some (.int .i64 c.am))(Z:W.cell? ⟨bc,2,none⟩=some (.int .i64 c.ab))(V:W.cell? ⟨bc,3,none⟩=some (.int .i64 c.cm))(e4:W.cell? ⟨bc,4,none⟩=some (.int .i64 c.cb))(e5:W.cell? ⟨bc,5,none⟩=some (.slice na nn nc))
  (h:W.ownsRow base 65 6 (Value.slice va vn vc) vn xs) (N:base<=W) (i:vn<=100000) (Q:m<W) (p:(Value.slice va vn vc).ownBlock≠some m) :
  DO.wpIn (Fence.wide.inRound l) n prog (nG (FrV (λF=>{ tmps:=List.toArray (c0 :: c1 :: c2 :: c3 :: c4 :: c5 :: c6 :: c7 :: c8 :: .pointer (some ⟨bc,0,none⟩) :: c10 :: c11 :: .pointer (some ⟨m,k,none⟩) :: c13 :: c14 :: c15 :: c16 :: c17 :: c18 :: c19 :: c20 :: c21 :: c22 :: c23 :: c24 :: c25 :: c26 :: c27 :: c28 :: c29 :: c30 :: c31 :: c32 :: c33 :: c34 :: c35 :: c36 :: c37 :: c38 :: c39 :: c40 :: c41 :: c42 :: c43 :: c44 :: c45 :: c46 :: c47 :: c48 :: c49 :: c50 :: c51 :: c52 :: c53 :: c54 :: c55 :: c56 :: c57 :: c58 :: c59 :: c60 :: c61 :: c62 :: c63 :: c64 :: c65 :: c66 :: c67 :: c68 :: F 69 :: F 70 :: F 71 :: F 72 :: F 73 :: F 74 :: F 75 :: F 76 :: F 77 :: F 78 :: F 79 :: F 80 :: j :: v :: t :: w :: o :: x :: u :: q :: y :: s :: c91 :: []),defers:=[] }) λ_ W'=>∃g f r,W'=r.setCell ⟨m,k+2,none⟩ (Value.slice (some ⟨g,0,none⟩) (vn+1) f)/\r.ownsRow base 65 6 (Value.slice (some ⟨g,0,none⟩) (vn+1) f) (vn+1) (xs++kK (c,.slice na nn nc))/\(W.alloc (sO c na nn nc)).grownBy r (Value.slice va vn vc).ownBlock/\((Value.slice va vn vc).ownBlock=some g\/g=(W.alloc (sO c na nn nc)).heap.size)))
   { tmps:=List.toArray (c0 :: c1 :: c2 :: c3 :: c4 :: c5 :: c6 :: c7 :: c8 :: .pointer (some ⟨bc,0,none⟩) :: c10 :: c11 :: .pointer (some ⟨m,k,none⟩) :: c13 :: c14 :: c15 :: c16 :: c17 :: c18 :: c19 :: c20 :: c21 :: c22 :: c23 :: c24 :: c25 :: c26 :: c27 :: c28 :: c29 :: c30 :: c31 :: c32 :: c33 :: c34 :: c35 :: c36 :: c37 :: c38 :: c39 :: c40 :: c41 :: c42 :: c43 :: c44 :: c45 :: c46 :: c47 :: c48 :: c49 :: c50 :: c51 :: c52 :: c53 :: c54 :: c55 :: c56 :: c57 :: c58 :: c59 :: c60 :: c61 :: c62 :: c63 :: c64 :: c65 :: c66 :: c67 :: c68 :: J :: C :: A :: I :: z :: H :: G :: E :: M :: D :: L :: B :: j :: v :: t :: w :: o :: x :: u :: q :: y :: s :: c91 :: []),defers:=[] } W:=by
 obtain⟨i0,hi,Hm,Hl,Ho⟩:=info_parts DM;have He:=qI h;have Hn:=qI p;have R:=qI N;have Hg:=qI i;have P:=qI Q;clear h p N i Q
 conv=>enter [4];unfold DO;whnf
 refine Ci (S:=λ_=>True) (by kernel_rfl) (DK (by kernel_rfl)) (Ch _) ?_;have d:(λ_:World=>True) W:=trivial;refine tk 0 ?_;refine tk 1 ?_;refine tk 2 ?_;refine tk 3 ?_;refine tk 4 ?_;refine rd2 5 6 (λK b=>?_) λK b=>?_
 focus
  go_simp
  go_wp2
  refine b.k trivial λd=>?_;refine rd 6 λK b=>?_;go_simp
  go_wp2
  refine b.k trivial λd=>?_;refine rd 7 λK b=>?_;go_simp
  go_wp2
  refine b.k trivial λd=>?_
 rotate_left
 focus
  go_simp
  go_wp2
  refine b.k trivial λd=>?_;refine rd2 5 7 (λK b=>?_) λK b=>?_
 focus
  go_simp
  go_wp2
  refine b.k trivial λd=>?_;refine rd 7 λK b=>?_;go_simp
  go_wp2
  refine b.k trivial λd=>?_
 rotate_left
 focus
  go_simp
  go_wp2
  refine b.k trivial λd=>?_;have Hp:=dI O (sO c na nn nc);refine rd 5 λK b=>?_;go_simp
  go_wp2
  refine b.k trivial λd=>?_
 all_goals
  refine rd 8 λK b=>?_;rw[if_pos (by rfl)];refine wp_append_lies _ _ _ 47 rfl base 65 i0 _ 6 72 underlying47 hi Hm Hl Ho rfl (by decide) (Value.slice va vn vc) vn xs rfl (He.o.alloc (sO c na nn nc)).drew W 1 1 (kK (c,.slice na nn nc)) rfl rfl (Ps W c) (Pu c na nn nc) (by decide) (by have:=Hg.o;unfold maxLen;omega) (by have:=Hg.o;omega) (by have:=R.o;simp;omega) (W.alloc (sO c na nn nc)).heap.size rfl ?_;intro g f r Hb Hc Hh Hi;have Hc:=DL Hc;have Ha:=(Hc.block m (Q1 P (by simp)) λe=>Hn.o e.symm).trans (Below.heap_alloc _ _ _ P);have X:=(World.cell?_of_block (a:=⟨m,k+2,none⟩) Ha).trans O;have T:=(World.frozen?_of_block (a:=⟨m,k+2,none⟩) Ha).trans hf;have Hf:=qI Hb;have Hk:=qI Hc;have Hj:=qI Hh;clear Hb Hc Hh Ha Hi;refine b.k trivial λd=>?_;refine tk 9 ?_;refine tk 10 ?_;refine tk 11 ?_;refine rd 12 λK b=>?_;go_simp
  go_wp2
  refine b.k trivial λd=>?_;refine Qn (by kernel_rfl) ?_ _;refine nG.mk (FrV.mk (by kernel_rfl) ?_);exact⟨g,f,r,rfl,Hf,Hk,Hj⟩
noncomputable def DP:Code:=DJ 17 ((Tryz.f157.body.map kP).getD [])
abbrev sP:=λ(x0:aX) (x1:Option Addr) (x2 x3:Nat)=>(.cells #[.int .u64 x0.cp,.slice x1 x2 x3] 123:Obj)
theorem Px{c0 N v t o s z q p x w y i A G I B H C M D E J L:Value}{n m k:Nat}{c:aX}(W:World)(P:W.cell? ⟨m,k+3,none⟩=some (Value.slice va vn vc))(hf:W.frozen? ⟨m,k+3,none⟩=false)(V:W.cell? bc=some (.int .u64 c.cp))(Y:W.cell? ⟨bc,1,none⟩=some (.slice na nn nc))
  (h:W.ownsRow base 123 2 (Value.slice va vn vc) vn xs) (O:base<=W) (j:vn<=100000) (R:m<W) (r:(Value.slice va vn vc).ownBlock≠some m) :
  DP.wpIn (Fence.wide.inRound l) n prog (nG (FrV (λF=>{ tmps:=List.toArray (c0 :: c1 :: c2 :: c3 :: c4 :: c5 :: c6 :: c7 :: c8 :: N :: .pointer (some ⟨bc,0,none⟩) :: c11 :: .pointer (some ⟨m,k,none⟩) :: c13 :: c14 :: c15 :: c16 :: c17 :: c18 :: c19 :: c20 :: c21 :: c22 :: c23 :: c24 :: c25 :: c26 :: c27 :: c28 :: c29 :: c30 :: c31 :: c32 :: c33 :: c34 :: c35 :: c36 :: c37 :: c38 :: c39 :: c40 :: c41 :: c42 :: c43 :: c44 :: c45 :: c46 :: c47 :: c48 :: c49 :: c50 :: c51 :: c52 :: c53 :: c54 :: c55 :: c56 :: c57 :: c58 :: c59 :: c60 :: c61 :: c62 :: c63 :: c64 :: c65 :: c66 :: c67 :: c68 :: v :: t :: o :: s :: z :: q :: p :: x :: w :: y :: i :: A :: F 81 :: F 82 :: F 83 :: F 84 :: F 85 :: F 86 :: F 87 :: F 88 :: F 89 :: F 90 :: c91 :: []),defers:=[] }) λ_ W'=>∃g f u,W'=u.setCell ⟨m,k+3,none⟩ (Value.slice (some ⟨g,0,none⟩) (vn+1) f)/\u.ownsRow base 123 2 (Value.slice (some ⟨g,0,none⟩) (vn+1) f) (vn+1) (xs++jV (c,.slice na nn nc))/\(W.alloc (sP c na nn nc)).grownBy u (Value.slice va vn vc).ownBlock/\((Value.slice va vn vc).ownBlock=some g\/g=(W.alloc (sP c na nn nc)).heap.size)))
   { tmps:=List.toArray (c0 :: c1 :: c2 :: c3 :: c4 :: c5 :: c6 :: c7 :: c8 :: N :: .pointer (some ⟨bc,0,none⟩) :: c11 :: .pointer (some ⟨m,k,none⟩) :: c13 :: c14 :: c15 :: c16 :: c17 :: c18 :: c19 :: c20 :: c21 :: c22 :: c23 :: c24 :: c25 :: c26 :: c27 :: c28 :: c29 :: c30 :: c31 :: c32 :: c33 :: c34 :: c35 :: c36 :: c37 :: c38 :: c39 :: c40 :: c41 :: c42 :: c43 :: c44 :: c45 :: c46 :: c47 :: c48 :: c49 :: c50 :: c51 :: c52 :: c53 :: c54 :: c55 :: c56 :: c57 :: c58 :: c59 :: c60 :: c61 :: c62 :: c63 :: c64 :: c65 :: c66 :: c67 :: c68 :: v :: t :: o :: s :: z :: q :: p :: x :: w :: y :: i :: A :: G :: I :: B :: H :: C :: M :: D :: E :: J :: L :: c91 :: []),defers:=[] } W:=by
 obtain⟨i0,hi,Hm,Hl,Ho⟩:=info_parts DN;have He:=qI h;have Hn:=qI r;have T:=qI O;have Hg:=qI j;have Q:=qI R;clear h r O j R
 conv=>enter [4];unfold DP;whnf
 refine Ci (S:=λ_=>True) (by kernel_rfl) (DK (by kernel_rfl)) (Ch _) ?_;have d:(λ_:World=>True) W:=trivial;refine tk 0 ?_;refine tk 1 ?_;refine tk 2 ?_;refine tk 3 ?_;refine rd2 4 5 (λK b=>?_) λK b=>?_
 focus
  go_simp
  go_wp2
  refine b.k trivial λd=>?_;refine rd 5 λK b=>?_;go_simp
  go_wp2
  refine b.k trivial λd=>?_;refine rd 6 λK b=>?_;go_simp
  go_wp2
  refine b.k trivial λd=>?_
 rotate_left
 focus
  go_simp
  go_wp2
  refine b.k trivial λd=>?_;refine rd2 4 6 (λK b=>?_) λK b=>?_
 focus
  go_simp
  go_wp2
  refine b.k trivial λd=>?_;refine rd 6 λK b=>?_;go_simp
  go_wp2
  refine b.k trivial λd=>?_
 rotate_left
 focus
  go_simp
  go_wp2
  refine b.k trivial λd=>?_;have Hp:=dI P (sP c na nn nc);refine rd 4 λK b=>?_;go_simp
  go_wp2
  refine b.k trivial λd=>?_
 all_goals
  refine rd 7 λK b=>?_;rw[if_pos (by rfl)];refine wp_append_lies _ _ _ 99 rfl base 123 i0 _ 2 32 underlying99 hi Hm Hl Ho rfl (by decide) (Value.slice va vn vc) vn xs rfl (He.o.alloc (sP c na nn nc)).drew W 1 1 (jV (c,.slice na nn nc)) rfl rfl (Pt W c) (Pv c na nn nc) (by decide) (by have:=Hg.o;unfold maxLen;omega) (by have:=Hg.o;omega) (by have:=T.o;simp;omega) (W.alloc (sP c na nn nc)).heap.size rfl ?_;intro g f u Hb Hc Hh Hi;have Hc:=DL Hc;have Ha:=(Hc.block m (Q1 Q (by simp)) λe=>Hn.o e.symm).trans (Below.heap_alloc _ _ _ Q);have X:=(World.cell?_of_block (a:=⟨m,k+3,none⟩) Ha).trans P;have U:=(World.frozen?_of_block (a:=⟨m,k+3,none⟩) Ha).trans hf;have Hf:=qI Hb;have Hk:=qI Hc;have Hj:=qI Hh;clear Hb Hc Hh Ha Hi;refine b.k trivial λd=>?_;refine tk 8 ?_;refine tk 9 ?_;refine rd 10 λK b=>?_;go_simp
  go_wp2
  refine b.k trivial λd=>?_;refine Qn (by kernel_rfl) ?_ _;refine nG.mk (FrV.mk (by kernel_rfl) ?_);exact⟨g,f,u,rfl,Hf,Hk,Hj⟩
theorem DQ(s:ByteArray):(Lib.splitB ⟨#[32]⟩ 0 (Lib.countB s ⟨#[32]⟩) s).map (·.data.toList)=aP 32 s.data.toList:=by
 rw[Lib.splitB_data];exact CN 32 _ _ (lR)
theorem DR(s:ByteArray):∀n,s.size<=n->(Lib.splitB ⟨#[32]⟩ 0 (Lib.countB s ⟨#[32]⟩) s).length=Lib.countB s ⟨#[32]⟩+1:=by
 intro n
 induction n generalizing s with
 | zero=>
  intro h
  rcases Lib.indexB_cases s ⟨#[32]⟩ with a|⟨i,a,b⟩
  ·rw[Lib.countB_miss s _ a];rfl
  ·exfalso;have:(ByteArray.mk #[32]).size=1:=rfl;omega
 | succ n ih=>
  intro h
  rcases Lib.indexB_cases s ⟨#[32]⟩ with a|⟨i,a,b⟩
  ·rw[Lib.countB_miss s _ a];rfl
  ·have c:(ByteArray.mk #[32]).size=1:=rfl;rw[Lib.countB_hit s _ i (by omega) a,Nat.add_comm 1,Lib.splitB_hit _ 0 _ s i a,Qg,ih _ (by rw[ByteArray.size_extract];omega)]
theorem Py(x:List UInt8){w:World}(hs:x.length<=1000000)(a:dH w) :
  Calls prog 190 #[.string ⟨x.toArray⟩,.string ⟨#[32]⟩] w λe w'=>
   e=.returned (.slice w (aP 32 x).length (aP 32 x).length)/\qN w' w (aP 32 x)/\Bw w w':=by
 obtain⟨m,a⟩:=a;have b:=Tryz.strings_Split ⟨x.toArray⟩ ⟨#[32]⟩ m w (by show x.length<_;omega) a (by decide);have c:Lib.countB ⟨x.toArray⟩ ⟨#[32]⟩+1=(aP 32 x).length:=by
  rw[<- DR _ _ (lR),<- Q9 (·.data.toList),DQ]
 rw[c] at b;refine b.mono ?_;rintro e w' ⟨rfl,rfl⟩;refine⟨rfl,⟨by simp,λk f=>?_⟩,(Q0 _ _).alloc (lR) _⟩;have ah:=DQ ⟨x.toArray⟩;have Ha:k<(Lib.splitB ⟨#[32]⟩ 0 (Lib.countB ⟨x.toArray⟩ ⟨#[32]⟩) ⟨x.toArray⟩).length:=by rw[DR _ _ (lR),c];exact f
 rw[World.cell?_alloc_new];have g:(aP 32 x)[k]?=some ((Lib.splitB ⟨#[32]⟩ 0 (Lib.countB ⟨x.toArray⟩ ⟨#[32]⟩) ⟨x.toArray⟩)[k].data.toList):=by
  rw[<- show (Lib.splitB ⟨#[32]⟩ 0 (Lib.countB ⟨x.toArray⟩ ⟨#[32]⟩) ⟨x.toArray⟩).map (·.data.toList)=aP 32 x from ah,List.getElem?_map,Qf Ha];rfl
 have d:au (aP 32 x) k=(Lib.splitB ⟨#[32]⟩ 0 (Lib.countB ⟨x.toArray⟩ ⟨#[32]⟩) ⟨x.toArray⟩)[k].data.toList:=by
  unfold au;rw[List.getD_eq_getElem?_getD,g];rfl
 rw[d,List.getElem?_toArray,List.getElem?_map,Qf Ha];rfl
def nS (t:List UInt8):List (List (List UInt8)):=(dM t).map λx=>aP 32 (Lib.trimSuffix x [10])
theorem Pz(x:List UInt8):Lib.trimSuffix (x++[10]) [10]=x:=by simp[Lib.trimSuffix,Lib.hasSuffix]
theorem PA{x:List UInt8}(h:(10:UInt8) ∉ x):Lib.trimSuffix x [10]=x:=by
 unfold Lib.trimSuffix;rw[if_neg];intro hs
 have:[10] <:+ x:=by simpa[Lib.hasSuffix] using hs
 obtain⟨y,a⟩:=this;exact h (by rw[<- a];simp)
theorem PC(c:UInt8)(l:List UInt8):∀x∈aP c l,c ∉ x:=by induction l <;> grind[aP]
theorem PD(t:List UInt8):nS t=(so t).map (aP 32):=by
 have Hc:=PC 10 t;have Ha:=qh 10 t;unfold nS dM so;generalize aP 10 t=p at *;have b:(p.dropLast.map (·++[10])).map (λx=>aP 32 (Lib.trimSuffix x [10]))=p.dropLast.map (aP 32):=by
  simp[List.map_congr_left,Pz]
 by_cases h:p.getLast?=some []
 ·grind
 ·rw[if_neg h,if_neg h,Qj,b];obtain⟨l,a⟩:∃l,p.getLast?=some l:=⟨_,List.getLast?_eq_some_getLast Ha⟩;have ah:p.getLastD []=l:=by grind
  have Hb:=List.mem_of_getLast? a;rw[ah,List.map_singleton,PA (Hc l Hb),<- List.map_singleton,<- Qj]
  congr 1
  rw[List.getLast?_eq_some_getLast Ha] at a;injection a with a
  rw[<- a];exact List.dropLast_concat_getLast Ha
theorem PF(t:List UInt8):iB t=fp cB cP [] (nS t):=by rw[PD];rfl
