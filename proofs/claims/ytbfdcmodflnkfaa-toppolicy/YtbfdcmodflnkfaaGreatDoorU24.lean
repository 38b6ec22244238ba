/- VD4 -/
import Derived.Test.YtbfdcmodflnkfaaGreatDoorU7
set_option maxRecDepth 100000
set_option maxHeartbeats 16000000
namespace Go.Proofs.YtbfdcmodflnkfaaGreatDoor
section
open Go.RowKit
def ChgAt (w:World) (g:Nat) (wr:Bool) (bs:ByteArray):Prop:=g<w.heap.size∧w.cell? ⟨g,0,none⟩=some (.bool wr)∧w.cell? ⟨g,1,none⟩=some (.string bs)
theorem ChgAt.block {w w':World} {g:Nat} {wr:Bool} {bs:ByteArray} (h:ChgAt w g wr bs) (he:w'.heap[g]?=w.heap[g]?):ChgAt w' g wr bs:=by
 obtain ⟨h0,h1,h2⟩:=h
 have hlt:g<w'.heap.size:=by
  obtain ⟨hg,_⟩:=Array.getElem?_eq_some_iff.1 (he.trans (Array.getElem?_eq_getElem h0))
  exact hg
 exact ⟨hlt,(World.cell?_of_block (a:=⟨g,0,none⟩) he).trans h1,(World.cell?_of_block (a:=⟨g,1,none⟩) he).trans h2⟩
theorem grown_trans {a b c:World} {B:Nat} (p:a.grownBy b (some B)) (q:b.grownBy c (some B)):a.grownBy c (some B):=
 ⟨q.os.trans p.os,q.tape.trans p.tape,q.output.trans p.output,Nat.le_trans p.size q.size,fun j hj hne=>(q.block j (Nat.lt_of_lt_of_le hj p.size) hne).trans (p.block j hj hne)⟩
theorem grown_belowV {a b c:World} {B:Nat} (p:a.grownBy b (some B)) (q:Below b.heap.size b c):a.grownBy c (some B):=
 ⟨q.os.trans p.os,q.tape.trans p.tape,q.output.trans p.output,Nat.le_trans p.size q.size,fun j hj hne=>(q.block j (Nat.lt_of_lt_of_le hj p.size)).trans (p.block j hj hne)⟩
theorem infoChg:(Tryz.prog.info? 206).map (fun i=>(i.zero,i.size,i.bytes))=some (some (.agg #[.bool false,.string ByteArray.empty]),2,24):=by kernel_rfl
theorem info_partsV {o:Option TypeInfo} {z:Option Value} {s b:Nat} (h:o.map (fun i=>(i.zero,i.size,i.bytes))=some (z,s,b)):∃ i,o=some i∧i.zero=z∧i.size=s∧i.bytes=b:=by
 cases o with
 | none=>cases h
 | some i=>simp at h;exact ⟨i,rfl,h.1,h.2.1,h.2.2⟩
theorem new_chg (w:World) (wr:Bool) (bs:ByteArray) (t:TypeId):∀ j u,[Value.bool wr,Value.string bs][j]?=some u→(w.alloc (.cells #[.bool wr,.string bs] t)).drew.cell? ((⟨w.heap.size,0,none⟩:Addr).add j)=some u:=by
 intro j u hu
 rw [Addr.add_lit,Nat.zero_add]
 match j,hu with
 | 0,hu=>simp at hu;subst hu;simp
 | 1,hu=>simp at hu;subst hu;simp
theorem chg_own {w:World} {base:Nat} {v:Value} {wr:Bool} {bs:ByteArray} (h:w.ownsRow base 206 2 v (0+1) ([]++[.bool wr,.string bs])):∃ g cap,v=.slice (some ⟨g,0,none⟩) 1 cap∧(base≤g∧1≤cap)∧ChgAt w g wr bs:=by
 rcases h.2 with ⟨_,h0⟩|⟨g,cap,cur,hv,hb,hg,hcp,hcp2,hcp3,ht⟩
 ·cases h0
 ·have c0:cur[0]?=some (.bool wr):=by
   have:=congrArg (fun l=>l[0]?) ht
   simpa using this
  have c1:cur[1]?=some (.string bs):=by
   have:=congrArg (fun l=>l[1]?) ht
   simpa using this
  exact ⟨g,cap,hv,⟨hb,by omega⟩,(Array.getElem?_eq_some_iff.1 hg).1,by simp [World.cell?,hg,c0],by simp [World.cell?,hg,c1]⟩
theorem below_of_drewD {w w':World} (h:Below w.drew.heap.size w.drew w'):Below w.heap.size w w':=⟨h.os,h.tape,h.output,h.size,h.block⟩
theorem wp_storeS {W:World} {B p q:Nat} {s:Sd} {z0 z1 z2 z3:Value} {a:Act} {ty:TypeId} {pos:String} {after:Array Edge} {guard:Option (Nat × Bool)} {K:Act→World→Prop} {Q:Exit→Act→World→Prop}
  (c0:W.cell? ⟨B,0,none⟩=some z0) (c1:W.cell? ⟨B,1,none⟩=some z1) (c2:W.cell? ⟨B,2,none⟩=some z2) (c3:W.cell? ⟨B,3,none⟩=some z3) (f0:W.frozen? ⟨B,0,none⟩=false) (f1:W.frozen? ⟨B,1,none⟩=false) (f2:W.frozen? ⟨B,2,none⟩=false) (f3:W.frozen? ⟨B,3,none⟩=false)
  (hp:a.tmps[p]?.getD undef=.pointer (some ⟨B,0,none⟩)) (hq:a.tmps[q]?.getD undef=s.agg) (hk:K a (putS W B 0 s)) :
  Oper.wp Tryz.prog { dst:=none,op:=Op.store 127 (Operand.tmp p) (Operand.tmp q),type:=ty,pos:=pos,after:=after,guard:=guard } a W K Q:=by
 unfold putS at hk
 unfold Sd.agg at hq
 have HK:=hZz hk
 clear hk
 go_simp
 exact HK.out
def Waits (w w':World) (B:Nat) (n k:Sd) (l:Int) (wr:Bool) (bs:ByteArray):Prop:=∃ g cap,DiskW w' B n k (.slice (some ⟨g,0,none⟩) 1 cap) l false∧(w.heap.size≤g∧1≤cap)∧ChgAt w' g wr bs
theorem apply_yes (B:Nat) (n k:Sd) (l:Int) (d:Bool) (wr:Bool) (bs:ByteArray) (w:World) (h:DiskW w B n k (.slice none 0 0) l d) (hl:-9223372036854775808≤l∧l≤9223372036854775807) (h0:stepE l d=0) :
  Calls Tryz.prog 114 #[.pointer (some ⟨B,0,none⟩),.agg #[.bool wr,.string bs]] w fun e w'=>e=.returned .nilIface∧Waits w w' B (Chg.on ⟨wr,bs⟩ n) k (stepN l d) wr bs∧w.grownBy w' (some B):=by
 have hlt:=h.lt
 have hba:=(Below.refl w.heap.size w).alloc (Nat.le_refl _) (.cells #[.bool wr,.string bs] 206)
 have hX0:ChgAt (w.alloc (.cells #[.bool wr,.string bs] 206)) w.heap.size wr bs:=⟨by simp,by simp,by simp⟩
 have hD0:=h.block (w':=w.alloc (.cells #[.bool wr,.string bs] 206)) (hba.block B hlt)
 have HST:=hZz (stepW_any B n k _ l d _ hD0 hl)
 have hF:stepF l d=false:=by
  rcases step_two l d with ⟨e1,_⟩|⟨_,e2⟩
  ·rw [h0] at e1;cases e1
  ·exact e2
 rw [h0,hF,errV_0] at HST
 have HON:=hZz (on_anyV ⟨wr,bs⟩ n)
 obtain ⟨n',hn'⟩:∃ n',n'=Chg.on ⟨wr,bs⟩ n:=⟨_,rfl⟩
 rw [← hn'] at HON ⊢
 unfold Chg.agg at HON
 rw [show n.agg=.agg #[.bool n.ft,.string n.fb,.bool n.dt,.string n.db] from rfl] at HON
 dsimp only at HON
 have hXB:w.heap.size≠B:=by omega
 have HBA:=hZz hba
 have HX0:=hZz hX0
 clear h hD0 hn' hF h0 hba hX0
 go_enter Tryz.func114,Tryz.ntmps114
 go_wp2_with fail
 refine HST.out.mono ?_
 rintro e w1 ⟨rfl,h1,ho1⟩
 have hX1':ChgAt w1 w.heap.size wr bs:=HX0.out.block (ho1.1.block w.heap.size (by simp) (fun e=>hXB (Option.some.inj e)))
 have HX1:=hZz hX1'
 have hX1:=hX1'.1
 have hB1:=h1.lt
 have HG1:=hZz (grown_trans ⟨HBA.out.os,HBA.out.tape,HBA.out.output,HBA.out.size,fun j hj _=>HBA.out.block j hj⟩ ho1.1)
 obtain ⟨a0,a1,a2,a3⟩:=h1.now
 obtain ⟨_,x0,x1⟩:=hX1'
 have H1:=hZz h1
 clear h1 ho1 HST HBA HX0
 as_aux_lemma=>
 go_wp2_with fail
 refine wp_region_held_drew (S:=fun _=>True) (by kernel_rfl) trivial (fun hHeld=>?_)
 refine tk 0 (v:=?a1) (fun w' h=>?b1) ?_
 case b1=>(try dsimp only at h);go_simp;try rfl
 (try simp only [Act.put,s1,s2,s3])
 refine tk 2 (v:=?a2) (fun w' h=>?b2) ?_
 case b2=>(try dsimp only at h);go_simp;try rfl
 (try simp only [Act.put,s1,s2,s3])
 refine tk 3 (v:=?a3) (fun w' h=>?b3) ?_
 case b3=>(try dsimp only at h);go_simp;try rfl
 (try simp only [Act.put,s1,s2,s3])
 refine tk 4 (v:=?a4) (fun w' h=>?b4) ?_
 case b4=>(try dsimp only at h);go_simp;try rfl
 (try simp only [Act.put,s1,s2,s3])
 refine wpAnyH_ready (rs:=[1,5]) (by kernel_rfl) (by simp) (AllReadyH.cons rfl (fun K hK=>?_) (AllReadyH.cons rfl (fun K hK=>?_) AllReadyH.nil))
 ·go_simp
  refine hK.out _ _ trivial (fun hHeld=>?_)
  clear hK K
  (try simp only [Act.put,s1,s2,s3])
  refine wpAnyH_ready (rs:=[5]) (by kernel_rfl) (by simp) (AllReadyH.cons rfl (fun K hK=>?_) AllReadyH.nil)
  go_simp
  refine hK.out _ _ trivial (fun hHeld=>?_)
  clear hK K
  (try simp only [Act.put,s1,s2,s3])
  refine wpAnyH_ready (rs:=[6]) (by kernel_rfl) (by simp) (AllReadyH.cons rfl (fun K hK=>?_) AllReadyH.nil)
  go_simp
  go_wp2_with fail
  refine (HON.out _).mono ?_
  rintro e w5 ⟨rfl,hb5⟩
  have hD5:=H1.out.block (w':=w5) (hb5.block B hB1)
  have HX5:=hZz (show ChgAt w5 w.heap.size wr bs from HX1.out.block (hb5.block w.heap.size hX1))
  have HS5:=hZz hb5.size
  have HG5:=hZz (grown_belowV HG1.out (below_of_drewD hb5))
  go_wp2_with fail
  refine hK.out _ _ trivial (fun hHeld=>?_)
  clear hK K
  refine tk 7 (v:=?a5) (fun w' h=>?b5) ?_
  case b5=>(try dsimp only at h);go_simp;try rfl
  (try simp only [Act.put,s1,s2,s3])
  refine tk 8 (v:=?a6) (fun w' h=>?b6) ?_
  case b6=>(try dsimp only at h);go_simp;try rfl
  (try simp only [Act.put,s1,s2,s3])
  obtain ⟨s0,s1,s2,s3⟩:=hD5.now
  have HD6:=hZz (hD5.setNow n')
  have HX6:=hZz (show ChgAt (putS w5 B 0 n') w.heap.size wr bs from HX5.out.block ((OnlyB.refl B w5).putS 0 n' |>.1.block w.heap.size (by have:=HS5.out;have:=hX1;simp at *;omega) (fun e=>hXB (Option.some.inj e))))
  have HG6:=hZz (show w.grownBy (putS w5 B 0 n') (some B) from grown_trans HG5.out ((OnlyB.refl B w5).putS 0 n').1)
  have HS6:=hZz (show w.heap.size+1≤(putS w5 B 0 n').heap.size from by rw [((OnlyB.refl B w5).putS 0 n').2];have:=HS5.out;have:=hX1;simp at *;omega)
  refine wpAnyH_ready (rs:=[9]) (by kernel_rfl) (by simp) (AllReadyH.cons rfl (fun K hK=>?_) AllReadyH.nil)
  rw [if_pos (by rfl)]
  refine wp_storeS s0 s1 s2 s3 (hD5.frozen 0) (hD5.frozen 1) (hD5.frozen 2) (hD5.frozen 3) rfl rfl ?_
  refine hK.out _ _ trivial (fun hHeld=>?_)
  clear hK K hD5 HX5 HG5 s0 s1 s2 s3 H1 HX1 HG1 hb5 HS5 HON
  generalize putS w5 B 0 n'=w6 at *
  refine wpAnyH_done (by kernel_rfl) ?_ _
  as_aux_lemma=>
  obtain ⟨i0,hi,hz0,hz1,hz2⟩:=info_partsV infoChg
  obtain ⟨x8,_,_⟩:=HD6.out.rest
  have HB6:=hZz HD6.out.lt
  have hb7:=(Below.refl w6.heap.size w6).alloc (Nat.le_refl _) (.cells #[.bool wr,.string bs] 206)
  have x8':=(hb7.cell (p:=⟨B,8,none⟩) HB6.out).trans x8
  have HXa:=hZz (HX6.out.block (hb7.block w.heap.size HX6.out.1))
  have HA7:=hZz (show ∀ j,j<w6.heap.size→(w6.alloc (.cells #[.bool wr,.string bs] 206)).drew.heap[j]?=w6.heap[j]? from fun j hj=>hb7.block j hj)
  have HN7:=hZz (show ∀ j u,[Value.bool wr,Value.string bs][j]?=some u→(w6.alloc (.cells #[.bool wr,.string bs] 206)).drew.cell? ((⟨w6.heap.size,0,none⟩:Addr).add j)=some u from new_chg w6 wr bs _)
  have HS7:=hZz (show w.heap.size≤(w6.alloc (.cells #[.bool wr,.string bs] 206)).drew.heap.size from by have:=HS6.out;simp [World.drew];omega)
  clear hb7 a0 a1 a2 a3 x0 x1
  go_wp2_with fail
  refine wp_region_held_drew (S:=fun w'=>w'.cell? ⟨w.heap.size,0,none⟩=some (.bool wr)∧w'.cell? ⟨w.heap.size,1,none⟩=some (.string bs)) (by kernel_rfl) HX6.out.2 (fun hHeld=>?_)
  refine tk 0 (v:=?a7) (fun w' h=>?b7) ?_
  case b7=>(try dsimp only at h);go_simp;try rfl
  (try simp only [Act.put,s1,s2,s3])
  refine tk 1 (v:=?a8) (fun w' h=>?b8) ?_
  case b8=>(try dsimp only at h);go_simp;try rfl
  (try simp only [Act.put,s1,s2,s3])
  refine tk 2 (v:=?a9) (fun w' h=>?b9) ?_
  case b9=>(try dsimp only at h);go_simp;try rfl
  (try simp only [Act.put,s1,s2,s3])
  refine tk 3 (v:=?a10) (fun w' h=>?b10) ?_
  case b10=>(try dsimp only at h);go_simp;try rfl
  (try simp only [Act.put,s1,s2,s3])
  refine tk 5 (v:=?a11) (fun w' h=>?b11) ?_
  case b11=>(try dsimp only at h);go_simp;try rfl
  (try simp only [Act.put,s1,s2,s3])
  refine wpAnyH_ready (rs:=[4,6]) (by kernel_rfl) (by simp) (AllReadyH.cons rfl (fun K hK=>?_) (AllReadyH.cons rfl (fun K hK=>?_) AllReadyH.nil))
  ·go_simp
   refine hK.out _ _ HX6.out.2 (fun hHeld=>?_)
   clear hK K
   (try simp only [Act.put,s1,s2,s3])
   refine wpAnyH_ready (rs:=[6]) (by kernel_rfl) (by simp) (AllReadyH.cons rfl (fun K hK=>?_) AllReadyH.nil)
   go_simp
   refine hK.out _ _ HXa.out.2 (fun hHeld=>?_)
   clear hK K
   (try simp only [Act.put,s1,s2,s3])
   refine wpAnyH_ready (rs:=[7]) (by kernel_rfl) (by simp) (AllReadyH.cons rfl (fun K hK=>?_) AllReadyH.nil)
   rw [if_pos (by rfl)]
   refine wp_append_own (o := { dst := some 27, op := Op.call { callee := Callee.builtin Builtin.append, args := #[Operand.tmp 24, Operand.tmp 26], argTypes := #[128, 128] }, type := 128, pos := "disk.go:122", after := #[{ on := 4, ground := Ground.data }, { on := 6, ground := Ground.data }], guard := none }) _ _ _ 128 rfl w.heap.size 206 i0 (.agg #[.bool false, .string ByteArray.empty]) 2 24 Tryz.underlying128 hi hz0 hz1 hz2 rfl (by decide) (.slice none 0 0) 0 [] rfl (World.ownsRow_nil _ _ _ _) ⟨w6.heap.size, 0, none⟩ 1 1 [.bool wr, .string bs] rfl rfl HN7.out (by intro u hu; simp at hu; rcases hu with rfl | rfl <;> rfl) (by unfold maxLen; omega) (by omega) HS7.out ?_
   intro v8 w8 hown8 hgr8 _
   obtain ⟨g8,cap8,rfl,hg8,hc8⟩:=chg_own hown8
   have hbk:∀ j,j<w6.heap.size→w8.heap[j]?=w6.heap[j]?:=fun j hj=>(hgr8.block j (by simp [World.drew];omega) (by simp [Value.ownBlock])).trans (HA7.out j hj)
   have hD8:=HD6.out.block (w':=w8) (hbk B HB6.out)
   have hX8:=HX6.out.block (w':=w8) (hbk w.heap.size HX6.out.1)
   have HG8:=hZz (show w.grownBy w8 (some B) from grown_trans HG6.out ⟨hgr8.os,hgr8.tape,hgr8.output,Nat.le_trans (by simp [World.drew]) hgr8.size,fun j hj _=>hbk j hj⟩)
   clear hbk hown8 hgr8 HN7 HS7 HA7
   refine hK.out _ _ hX8.2 (fun hHeld=>?_)
   clear hK K
   refine tk 8 (v:=?a12) (fun w' h=>?b12) ?_
   case b12=>(try dsimp only at h);go_simp;try rfl
   (try simp only [Act.put,s1,s2,s3])
   refine tk 9 (v:=?a13) (fun w' h=>?b13) ?_
   case b13=>(try dsimp only at h);go_simp;try rfl
   (try simp only [Act.put,s1,s2,s3])
   obtain ⟨q8,_,_⟩:=hD8.rest
   have r8:=hD8.frozen 8
   have HD9:=hZz (hD8.set8 (.slice (some ⟨g8,0,none⟩) 1 cap8))
   have HO9:=hZz ((OnlyB.refl B w8).set 8 (.slice (some ⟨g8,0,none⟩) 1 cap8))
   have HC9:=hZz (hc8.block (HO9.out.1.block g8 hc8.1 (fun e=>by have:=Option.some.inj e;omega)))
   have HX9:=hZz (hX8.block (HO9.out.1.block w.heap.size hX8.1 (fun e=>hXB (Option.some.inj e))))
   have HG9:=hZz (grown_trans HG8.out HO9.out.1)
   clear hD8 hX8 hc8 HG8 HO9
   refine wpAnyH_ready (rs:=[10]) (by kernel_rfl) (by simp) (AllReadyH.cons rfl (fun K hK=>?_) AllReadyH.nil)
   go_simp
   refine hK.out _ _ HX9.out.2 (fun hHeld=>?_)
   clear hK K
   (try simp only [Act.put,s1,s2,s3])
   refine wpAnyH_done (by kernel_rfl) ?_ _
   go_wp2_with fail
   go_ret
   exact ⟨rfl,⟨g8,cap8,HD9.out,hg8,HC9.out⟩,HG9.out⟩
  ·go_simp
   refine hK.out _ _ HXa.out.2 (fun hHeld=>?_)
   clear hK K
   (try simp only [Act.put,s1,s2,s3])
   refine wpAnyH_ready (rs:=[4]) (by kernel_rfl) (by simp) (AllReadyH.cons rfl (fun K hK=>?_) AllReadyH.nil)
   go_simp
   refine hK.out _ _ HXa.out.2 (fun hHeld=>?_)
   clear hK K
   (try simp only [Act.put,s1,s2,s3])
   refine wpAnyH_ready (rs:=[7]) (by kernel_rfl) (by simp) (AllReadyH.cons rfl (fun K hK=>?_) AllReadyH.nil)
   rw [if_pos (by rfl)]
   refine wp_append_own (o := { dst := some 27, op := Op.call { callee := Callee.builtin Builtin.append, args := #[Operand.tmp 24, Operand.tmp 26], argTypes := #[128, 128] }, type := 128, pos := "disk.go:122", after := #[{ on := 4, ground := Ground.data }, { on := 6, ground := Ground.data }], guard := none }) _ _ _ 128 rfl w.heap.size 206 i0 (.agg #[.bool false, .string ByteArray.empty]) 2 24 Tryz.underlying128 hi hz0 hz1 hz2 rfl (by decide) (.slice none 0 0) 0 [] rfl (World.ownsRow_nil _ _ _ _) ⟨w6.heap.size, 0, none⟩ 1 1 [.bool wr, .string bs] rfl rfl HN7.out (by intro u hu; simp at hu; rcases hu with rfl | rfl <;> rfl) (by unfold maxLen; omega) (by omega) HS7.out ?_
   intro v8 w8 hown8 hgr8 _
   obtain ⟨g8,cap8,rfl,hg8,hc8⟩:=chg_own hown8
   have hbk:∀ j,j<w6.heap.size→w8.heap[j]?=w6.heap[j]?:=fun j hj=>(hgr8.block j (by simp [World.drew];omega) (by simp [Value.ownBlock])).trans (HA7.out j hj)
   have hD8:=HD6.out.block (w':=w8) (hbk B HB6.out)
   have hX8:=HX6.out.block (w':=w8) (hbk w.heap.size HX6.out.1)
   have HG8:=hZz (show w.grownBy w8 (some B) from grown_trans HG6.out ⟨hgr8.os,hgr8.tape,hgr8.output,Nat.le_trans (by simp [World.drew]) hgr8.size,fun j hj _=>hbk j hj⟩)
   clear hbk hown8 hgr8 HN7 HS7 HA7
   refine hK.out _ _ hX8.2 (fun hHeld=>?_)
   clear hK K
   refine tk 8 (v:=?a14) (fun w' h=>?b14) ?_
   case b14=>(try dsimp only at h);go_simp;try rfl
   (try simp only [Act.put,s1,s2,s3])
   refine tk 9 (v:=?a15) (fun w' h=>?b15) ?_
   case b15=>(try dsimp only at h);go_simp;try rfl
   (try simp only [Act.put,s1,s2,s3])
   obtain ⟨q8,_,_⟩:=hD8.rest
   have r8:=hD8.frozen 8
   have HD9:=hZz (hD8.set8 (.slice (some ⟨g8,0,none⟩) 1 cap8))
   have HO9:=hZz ((OnlyB.refl B w8).set 8 (.slice (some ⟨g8,0,none⟩) 1 cap8))
   have HC9:=hZz (hc8.block (HO9.out.1.block g8 hc8.1 (fun e=>by have:=Option.some.inj e;omega)))
   have HX9:=hZz (hX8.block (HO9.out.1.block w.heap.size hX8.1 (fun e=>hXB (Option.some.inj e))))
   have HG9:=hZz (grown_trans HG8.out HO9.out.1)
   clear hD8 hX8 hc8 HG8 HO9
   refine wpAnyH_ready (rs:=[10]) (by kernel_rfl) (by simp) (AllReadyH.cons rfl (fun K hK=>?_) AllReadyH.nil)
   go_simp
   refine hK.out _ _ HX9.out.2 (fun hHeld=>?_)
   clear hK K
   (try simp only [Act.put,s1,s2,s3])
   refine wpAnyH_done (by kernel_rfl) ?_ _
   go_wp2_with fail
   go_ret
   exact ⟨rfl,⟨g8,cap8,HD9.out,hg8,HC9.out⟩,HG9.out⟩
 ·go_simp
  refine hK.out _ _ trivial (fun hHeld=>?_)
  clear hK K
  (try simp only [Act.put,s1,s2,s3])
  refine wpAnyH_ready (rs:=[1]) (by kernel_rfl) (by simp) (AllReadyH.cons rfl (fun K hK=>?_) AllReadyH.nil)
  go_simp
  refine hK.out _ _ trivial (fun hHeld=>?_)
  clear hK K
  (try simp only [Act.put,s1,s2,s3])
  refine wpAnyH_ready (rs:=[6]) (by kernel_rfl) (by simp) (AllReadyH.cons rfl (fun K hK=>?_) AllReadyH.nil)
  go_simp
  go_wp2_with fail
  refine (HON.out _).mono ?_
  rintro e w5 ⟨rfl,hb5⟩
  have hD5:=H1.out.block (w':=w5) (hb5.block B hB1)
  have HX5:=hZz (show ChgAt w5 w.heap.size wr bs from HX1.out.block (hb5.block w.heap.size hX1))
  have HS5:=hZz hb5.size
  have HG5:=hZz (grown_belowV HG1.out (below_of_drewD hb5))
  go_wp2_with fail
  refine hK.out _ _ trivial (fun hHeld=>?_)
  clear hK K
  refine tk 7 (v:=?a16) (fun w' h=>?b16) ?_
  case b16=>(try dsimp only at h);go_simp;try rfl
  (try simp only [Act.put,s1,s2,s3])
  refine tk 8 (v:=?a17) (fun w' h=>?b17) ?_
  case b17=>(try dsimp only at h);go_simp;try rfl
  (try simp only [Act.put,s1,s2,s3])
  obtain ⟨s0,s1,s2,s3⟩:=hD5.now
  have HD6:=hZz (hD5.setNow n')
  have HX6:=hZz (show ChgAt (putS w5 B 0 n') w.heap.size wr bs from HX5.out.block ((OnlyB.refl B w5).putS 0 n' |>.1.block w.heap.size (by have:=HS5.out;have:=hX1;simp at *;omega) (fun e=>hXB (Option.some.inj e))))
  have HG6:=hZz (show w.grownBy (putS w5 B 0 n') (some B) from grown_trans HG5.out ((OnlyB.refl B w5).putS 0 n').1)
  have HS6:=hZz (show w.heap.size+1≤(putS w5 B 0 n').heap.size from by rw [((OnlyB.refl B w5).putS 0 n').2];have:=HS5.out;have:=hX1;simp at *;omega)
  refine wpAnyH_ready (rs:=[9]) (by kernel_rfl) (by simp) (AllReadyH.cons rfl (fun K hK=>?_) AllReadyH.nil)
  rw [if_pos (by rfl)]
  refine wp_storeS s0 s1 s2 s3 (hD5.frozen 0) (hD5.frozen 1) (hD5.frozen 2) (hD5.frozen 3) rfl rfl ?_
  refine hK.out _ _ trivial (fun hHeld=>?_)
  clear hK K hD5 HX5 HG5 s0 s1 s2 s3 H1 HX1 HG1 hb5 HS5 HON
  generalize putS w5 B 0 n'=w6 at *
  refine wpAnyH_done (by kernel_rfl) ?_ _
  as_aux_lemma=>
  obtain ⟨i0,hi,hz0,hz1,hz2⟩:=info_partsV infoChg
  obtain ⟨x8,_,_⟩:=HD6.out.rest
  have HB6:=hZz HD6.out.lt
  have hb7:=(Below.refl w6.heap.size w6).alloc (Nat.le_refl _) (.cells #[.bool wr,.string bs] 206)
  have x8':=(hb7.cell (p:=⟨B,8,none⟩) HB6.out).trans x8
  have HXa:=hZz (HX6.out.block (hb7.block w.heap.size HX6.out.1))
  have HA7:=hZz (show ∀ j,j<w6.heap.size→(w6.alloc (.cells #[.bool wr,.string bs] 206)).drew.heap[j]?=w6.heap[j]? from fun j hj=>hb7.block j hj)
  have HN7:=hZz (show ∀ j u,[Value.bool wr,Value.string bs][j]?=some u→(w6.alloc (.cells #[.bool wr,.string bs] 206)).drew.cell? ((⟨w6.heap.size,0,none⟩:Addr).add j)=some u from new_chg w6 wr bs _)
  have HS7:=hZz (show w.heap.size≤(w6.alloc (.cells #[.bool wr,.string bs] 206)).drew.heap.size from by have:=HS6.out;simp [World.drew];omega)
  clear hb7 a0 a1 a2 a3 x0 x1
  go_wp2_with fail
  refine wp_region_held_drew (S:=fun w'=>w'.cell? ⟨w.heap.size,0,none⟩=some (.bool wr)∧w'.cell? ⟨w.heap.size,1,none⟩=some (.string bs)) (by kernel_rfl) HX6.out.2 (fun hHeld=>?_)
  refine tk 0 (v:=?a18) (fun w' h=>?b18) ?_
  case b18=>(try dsimp only at h);go_simp;try rfl
  (try simp only [Act.put,s1,s2,s3])
  refine tk 1 (v:=?a19) (fun w' h=>?b19) ?_
  case b19=>(try dsimp only at h);go_simp;try rfl
  (try simp only [Act.put,s1,s2,s3])
  refine tk 2 (v:=?a20) (fun w' h=>?b20) ?_
  case b20=>(try dsimp only at h);go_simp;try rfl
  (try simp only [Act.put,s1,s2,s3])
  refine tk 3 (v:=?a21) (fun w' h=>?b21) ?_
  case b21=>(try dsimp only at h);go_simp;try rfl
  (try simp only [Act.put,s1,s2,s3])
  refine tk 5 (v:=?a22) (fun w' h=>?b22) ?_
  case b22=>(try dsimp only at h);go_simp;try rfl
  (try simp only [Act.put,s1,s2,s3])
  refine wpAnyH_ready (rs:=[4,6]) (by kernel_rfl) (by simp) (AllReadyH.cons rfl (fun K hK=>?_) (AllReadyH.cons rfl (fun K hK=>?_) AllReadyH.nil))
  ·go_simp
   refine hK.out _ _ HX6.out.2 (fun hHeld=>?_)
   clear hK K
   (try simp only [Act.put,s1,s2,s3])
   refine wpAnyH_ready (rs:=[6]) (by kernel_rfl) (by simp) (AllReadyH.cons rfl (fun K hK=>?_) AllReadyH.nil)
   go_simp
   refine hK.out _ _ HXa.out.2 (fun hHeld=>?_)
   clear hK K
   (try simp only [Act.put,s1,s2,s3])
   refine wpAnyH_ready (rs:=[7]) (by kernel_rfl) (by simp) (AllReadyH.cons rfl (fun K hK=>?_) AllReadyH.nil)
   rw [if_pos (by rfl)]
   refine wp_append_own (o := { dst := some 27, op := Op.call { callee := Callee.builtin Builtin.append, args := #[Operand.tmp 24, Operand.tmp 26], argTypes := #[128, 128] }, type := 128, pos := "disk.go:122", after := #[{ on := 4, ground := Ground.data }, { on := 6, ground := Ground.data }], guard := none }) _ _ _ 128 rfl w.heap.size 206 i0 (.agg #[.bool false, .string ByteArray.empty]) 2 24 Tryz.underlying128 hi hz0 hz1 hz2 rfl (by decide) (.slice none 0 0) 0 [] rfl (World.ownsRow_nil _ _ _ _) ⟨w6.heap.size, 0, none⟩ 1 1 [.bool wr, .string bs] rfl rfl HN7.out (by intro u hu; simp at hu; rcases hu with rfl | rfl <;> rfl) (by unfold maxLen; omega) (by omega) HS7.out ?_
   intro v8 w8 hown8 hgr8 _
   obtain ⟨g8,cap8,rfl,hg8,hc8⟩:=chg_own hown8
   have hbk:∀ j,j<w6.heap.size→w8.heap[j]?=w6.heap[j]?:=fun j hj=>(hgr8.block j (by simp [World.drew];omega) (by simp [Value.ownBlock])).trans (HA7.out j hj)
   have hD8:=HD6.out.block (w':=w8) (hbk B HB6.out)
   have hX8:=HX6.out.block (w':=w8) (hbk w.heap.size HX6.out.1)
   have HG8:=hZz (show w.grownBy w8 (some B) from grown_trans HG6.out ⟨hgr8.os,hgr8.tape,hgr8.output,Nat.le_trans (by simp [World.drew]) hgr8.size,fun j hj _=>hbk j hj⟩)
   clear hbk hown8 hgr8 HN7 HS7 HA7
   refine hK.out _ _ hX8.2 (fun hHeld=>?_)
   clear hK K
   refine tk 8 (v:=?a23) (fun w' h=>?b23) ?_
   case b23=>(try dsimp only at h);go_simp;try rfl
   (try simp only [Act.put,s1,s2,s3])
   refine tk 9 (v:=?a24) (fun w' h=>?b24) ?_
   case b24=>(try dsimp only at h);go_simp;try rfl
   (try simp only [Act.put,s1,s2,s3])
   obtain ⟨q8,_,_⟩:=hD8.rest
   have r8:=hD8.frozen 8
   have HD9:=hZz (hD8.set8 (.slice (some ⟨g8,0,none⟩) 1 cap8))
   have HO9:=hZz ((OnlyB.refl B w8).set 8 (.slice (some ⟨g8,0,none⟩) 1 cap8))
   have HC9:=hZz (hc8.block (HO9.out.1.block g8 hc8.1 (fun e=>by have:=Option.some.inj e;omega)))
   have HX9:=hZz (hX8.block (HO9.out.1.block w.heap.size hX8.1 (fun e=>hXB (Option.some.inj e))))
   have HG9:=hZz (grown_trans HG8.out HO9.out.1)
   clear hD8 hX8 hc8 HG8 HO9
   refine wpAnyH_ready (rs:=[10]) (by kernel_rfl) (by simp) (AllReadyH.cons rfl (fun K hK=>?_) AllReadyH.nil)
   go_simp
   refine hK.out _ _ HX9.out.2 (fun hHeld=>?_)
   clear hK K
   (try simp only [Act.put,s1,s2,s3])
   refine wpAnyH_done (by kernel_rfl) ?_ _
   go_wp2_with fail
   go_ret
   exact ⟨rfl,⟨g8,cap8,HD9.out,hg8,HC9.out⟩,HG9.out⟩
  ·go_simp
   refine hK.out _ _ HXa.out.2 (fun hHeld=>?_)
   clear hK K
   (try simp only [Act.put,s1,s2,s3])
   refine wpAnyH_ready (rs:=[4]) (by kernel_rfl) (by simp) (AllReadyH.cons rfl (fun K hK=>?_) AllReadyH.nil)
   go_simp
   refine hK.out _ _ HXa.out.2 (fun hHeld=>?_)
   clear hK K
   (try simp only [Act.put,s1,s2,s3])
   refine wpAnyH_ready (rs:=[7]) (by kernel_rfl) (by simp) (AllReadyH.cons rfl (fun K hK=>?_) AllReadyH.nil)
   rw [if_pos (by rfl)]
   refine wp_append_own (o := { dst := some 27, op := Op.call { callee := Callee.builtin Builtin.append, args := #[Operand.tmp 24, Operand.tmp 26], argTypes := #[128, 128] }, type := 128, pos := "disk.go:122", after := #[{ on := 4, ground := Ground.data }, { on := 6, ground := Ground.data }], guard := none }) _ _ _ 128 rfl w.heap.size 206 i0 (.agg #[.bool false, .string ByteArray.empty]) 2 24 Tryz.underlying128 hi hz0 hz1 hz2 rfl (by decide) (.slice none 0 0) 0 [] rfl (World.ownsRow_nil _ _ _ _) ⟨w6.heap.size, 0, none⟩ 1 1 [.bool wr, .string bs] rfl rfl HN7.out (by intro u hu; simp at hu; rcases hu with rfl | rfl <;> rfl) (by unfold maxLen; omega) (by omega) HS7.out ?_
   intro v8 w8 hown8 hgr8 _
   obtain ⟨g8,cap8,rfl,hg8,hc8⟩:=chg_own hown8
   have hbk:∀ j,j<w6.heap.size→w8.heap[j]?=w6.heap[j]?:=fun j hj=>(hgr8.block j (by simp [World.drew];omega) (by simp [Value.ownBlock])).trans (HA7.out j hj)
   have hD8:=HD6.out.block (w':=w8) (hbk B HB6.out)
   have hX8:=HX6.out.block (w':=w8) (hbk w.heap.size HX6.out.1)
   have HG8:=hZz (show w.grownBy w8 (some B) from grown_trans HG6.out ⟨hgr8.os,hgr8.tape,hgr8.output,Nat.le_trans (by simp [World.drew]) hgr8.size,fun j hj _=>hbk j hj⟩)
   clear hbk hown8 hgr8 HN7 HS7 HA7
   refine hK.out _ _ hX8.2 (fun hHeld=>?_)
   clear hK K
   refine tk 8 (v:=?a25) (fun w' h=>?b25) ?_
   case b25=>(try dsimp only at h);go_simp;try rfl
   (try simp only [Act.put,s1,s2,s3])
   refine tk 9 (v:=?a26) (fun w' h=>?b26) ?_
   case b26=>(try dsimp only at h);go_simp;try rfl
   (try simp only [Act.put,s1,s2,s3])
   obtain ⟨q8,_,_⟩:=hD8.rest
   have r8:=hD8.frozen 8
   have HD9:=hZz (hD8.set8 (.slice (some ⟨g8,0,none⟩) 1 cap8))
   have HO9:=hZz ((OnlyB.refl B w8).set 8 (.slice (some ⟨g8,0,none⟩) 1 cap8))
   have HC9:=hZz (hc8.block (HO9.out.1.block g8 hc8.1 (fun e=>by have:=Option.some.inj e;omega)))
   have HX9:=hZz (hX8.block (HO9.out.1.block w.heap.size hX8.1 (fun e=>hXB (Option.some.inj e))))
   have HG9:=hZz (grown_trans HG8.out HO9.out.1)
   clear hD8 hX8 hc8 HG8 HO9
   refine wpAnyH_ready (rs:=[10]) (by kernel_rfl) (by simp) (AllReadyH.cons rfl (fun K hK=>?_) AllReadyH.nil)
   go_simp
   refine hK.out _ _ HX9.out.2 (fun hHeld=>?_)
   clear hK K
   (try simp only [Act.put,s1,s2,s3])
   refine wpAnyH_done (by kernel_rfl) ?_ _
   go_wp2_with fail
   go_ret
   exact ⟨rfl,⟨g8,cap8,HD9.out,hg8,HC9.out⟩,HG9.out⟩
end
end Go.Proofs.YtbfdcmodflnkfaaGreatDoor
