/- Math, DMath, Num, QMath, VMath, Math2, Shelf, RK1, EMath, EMath2, SMath, HMath -/
import Derived.Test.YtbfdcmodflnkfaaGreatDoorRows
import Derived.Test.YtbfdcmodflnkfaaGreatDoorProg
import Derived.Test.YtbfdcmodflnkfaaGreatDoorTk
import Derived.WalkKit
import Derived.WalkSpells
import Derived.WalkLawsBesides
import Derived.Laws.Bits64b
import Derived.Lib.Strings
import Derived.Lib.Index
import Derived.Lib.Small
import Derived.Lib.CutLaws
import Derived.Lib.ItoaNum
import Derived.Shelf.Strings.Builder1
import Derived.Shelf.Strings.Builder2
import Derived.Shelf.Strings.OnBuilder
import Derived.Shelf.Small.Bits
import Derived.Shelf.Small.Strs
import Derived.Shelf.Small.Wraps
import Derived.Shelf.Strings.BuilderF
import Derived.Shelf.Strings.BuilderK
import Derived.Shelf.Strconv.Itoa0
import Derived.Shelf.Strconv.Itoa1
import Derived.Shelf.LaysM
import Derived.Shelf.Strconv.Itoa2
import Derived.Shelf.Strconv.Itoa3
import Derived.Shelf.Strings.Search1
import Derived.Shelf.Strings.Search2
import Derived.Shelf.Strings.Search3
import Derived.Shelf.Strings.Cut
import Derived.Shelf.Strings.Count
import Derived.Shelf.Strings.Shaped
import Derived.Shelf.Sort.Plain
import Derived.Shelf.Strings.LastIndex
import Derived.Shelf.Strings.LastIndexAll
import Derived.Shelf.Strings.Prefix
import Derived.Shelf.Strings.Split
import Derived.Shelf.Strings.SplitShaped
import Derived.Shelf.Slices.In.SortNone
import Derived.Ground.SlgnProg
import Derived.Shelf.SlicesE.Clone
import Derived.Ground.SlsfProg
import Derived.Shelf.SlSortCmp.Insertion
import Derived.Shelf.SlSortCmp.SiftDown1
import Derived.Shelf.SlSortCmp.HeapSort1
import Derived.Shelf.SlSortCmp.Insertion1
import Derived.Shelf.SlSortCmp.Median1
import Derived.Shelf.SlSortCmp.Pivot1
import Derived.Shelf.SlSortCmp.ReverseRange1
import Derived.Shelf.SlSortCmp.PartialInsertion1
import Derived.Shelf.SlSortCmp.PartitionEqual1
import Derived.Shelf.SlSortCmp.Partition1
import Derived.Shelf.SlSortCmp.Pdq1
import Derived.Shelf.SlSortCmp.Whole1
import Derived.Shelf.SlSortCmp.NoneTotal
import Derived.Maps.OwnSet
import Derived.Maps.Range
import Derived.Maps.Views
import Derived.DeepKeys4
import Derived.Sort.Statements
import Derived.WideShapes
import Derived.WideAt
import Derived.Lib.Join
set_option maxRecDepth 100000
set_option maxHeartbeats 16000000
namespace Go.Proofs.YtbfdcmodflnkfaaGreatDoor
section
namespace Ost

def isDig (b:UInt8):Bool:=decide (48≤b.toNat∧b.toNat≤57)
def step (n:Int) (b:UInt8):Int:=n*10+((b.toNat:Int) - 48)
def val (l:List UInt8):Int:=l.foldl step 0
def allDig (l:List UInt8):Bool:=l.all isDig
def maxI:Int:=9223372036854775807
def isNum (l:List UInt8):Bool:=!l.isEmpty && !(decide (1<l.length) && (l.headD 0 == 48)) && allDig l
def good (m:Int) (l:List UInt8):Bool:=isNum l && decide ((l.length:Int)≤m) && decide (val l≤maxI)

theorem isDig_iff (b:UInt8):isDig b=true↔48≤b.toNat∧b.toNat≤57:=by simp [isDig]
theorem isDig_not (b:UInt8):isDig b=false↔¬ (48≤b.toNat∧b.toNat≤57):=by simp [isDig]
theorem toList_isEmpty (s:ByteArray):s.toList.isEmpty=decide (s.size=0):=by
 rw [ByteArray.toList_eq]
 rcases s with ⟨⟨l⟩⟩
 cases l <;> simp [ByteArray.size]
end Ost
end
section
namespace Dvs
structure Dv where
 kind:ByteArray
 node:Int
 sick:Bool
def dv0:Dv:=⟨ByteArray.empty,0,false⟩
instance:Inhabited Dv:=⟨dv0⟩
def dv (ds:List Dv) (k:Nat):Dv:=ds.getD k dv0
def nth (l:List Int) (k:Nat):Int:=l.getD k 0
theorem take_nth {l:List Int} {k:Nat} (h:k<l.length):l.take (k+1)=l.take k++[nth l k]:=by
 rw [List.take_add_one,nth,List.getD_eq_getElem?_getD,List.getElem?_eq_getElem h];rfl
def sel (p:Nat→Bool) (n:Nat):List Nat:=(List.range n).filter p
theorem sel_yes {p:Nat→Bool} {n:Nat} (h:p n=true):sel p (n+1)=sel p n++[n]:=by simp [sel,List.range_succ,List.filter_append,h]
theorem sel_no {p:Nat→Bool} {n:Nat} (h:p n=false):sel p (n+1)=sel p n:=by simp [sel,List.range_succ,List.filter_append,h]
theorem sel_mem {p:Nat→Bool} {n j:Nat}:j∈sel p n↔j<n∧p j=true:=by simp [sel]
theorem sel_nodup (p:Nat→Bool) (n:Nat):(sel p n).Nodup:=List.Pairwise.filter _ (by simpa [List.Nodup] using List.nodup_range (n:=n))
theorem sel_rising (p:Nat→Bool) (n:Nat):(sel p n).Pairwise (· < ·):=List.Pairwise.filter _ List.pairwise_lt_range
theorem sel_le (p:Nat→Bool) (n:Nat):(sel p n).length≤n:=by simpa [sel] using List.length_filter_le p (List.range n)
theorem sel_congr {p q:Nat→Bool} {n:Nat} (h:∀ j,j<n→p j=q j):sel p n=sel q n:=by
 unfold sel
 exact List.filter_congr (fun j hj=>h j (List.mem_range.1 hj))
def srt (l:List Nat):List Nat:=sel (fun j=>decide (j∈l)) 16
def usedBy (us:Nat→Bool) (l:List Nat) (j:Nat):Bool:=us j || decide (j∈l)
theorem usedBy_nil (us:Nat→Bool):usedBy us []=us:=by funext j;simp [usedBy]
theorem usedBy_snoc (us:Nat→Bool) (l:List Nat) (i j:Nat):usedBy us (l++[i]) j=(usedBy us l j || decide (j=i)):=by
 unfold usedBy
 by_cases h1:j∈l <;> by_cases h2:j=i <;> simp [h1,h2]
def fits (ds:List Dv) (us:Nat→Bool) (kind:ByteArray) (k:Nat):Bool:=decide ((dv ds k).kind=kind) && !(dv ds k).sick && !us k
def near (ds:List Dv) (m:Nat) (k:Nat):Bool:=m.testBit (dv ds k).node.toNat
def nearP (ds:List Dv) (us:Nat→Bool) (kind:ByteArray) (m:Nat) (k:Nat):Bool:=fits ds us kind k && near ds m k
def farP (ds:List Dv) (us:Nat→Bool) (kind:ByteArray) (m:Nat) (k:Nat):Bool:=fits ds us kind k && !near ds m k
def ord (ds:List Dv) (us:Nat→Bool) (kind:ByteArray) (m:Nat):List Nat:=sel (nearP ds us kind m) ds.length++sel (farP ds us kind m) ds.length
def took (ds:List Dv) (us:Nat→Bool) (kind:ByteArray) (m many:Nat):List Nat:=(ord ds us kind m).take many
theorem parts_len (f g:Nat→Bool) (n:Nat):(sel (fun k=>f k && g k) n).length+(sel (fun k=>f k && !g k) n).length=(sel f n).length:=by
 induction n with
 | zero=>rfl
 | succ n ih=>
  cases hf:f n <;> cases hg:g n
  ·rw [sel_no (by simp [hf]),sel_no (by simp [hf]),sel_no hf];exact ih
  ·rw [sel_no (by simp [hf]),sel_no (by simp [hf]),sel_no hf];exact ih
  ·rw [sel_no (by simp [hg]),sel_yes (by simp [hf,hg]),sel_yes hf];simp;omega
  ·rw [sel_yes (by simp [hf,hg]),sel_no (by simp [hg]),sel_yes hf];simp;omega
theorem ord_len (ds:List Dv) (us:Nat→Bool) (kind:ByteArray) (m:Nat):(ord ds us kind m).length=(sel (fits ds us kind) ds.length).length:=by
 unfold ord
 rw [List.length_append]
 exact parts_len (fits ds us kind) (near ds m) ds.length
theorem ord_mem {ds:List Dv} {us:Nat→Bool} {kind:ByteArray} {m j:Nat}:j∈ord ds us kind m↔j<ds.length∧fits ds us kind j=true:=by
 unfold ord nearP farP
 rw [List.mem_append,sel_mem,sel_mem]
 cases near ds m j <;> simp
theorem ord_nodup (ds:List Dv) (us:Nat→Bool) (kind:ByteArray) (m:Nat):(ord ds us kind m).Nodup:=by
 unfold ord
 rw [List.nodup_append]
 refine ⟨sel_nodup _ _,sel_nodup _ _,?_⟩
 intro a ha b hb e
 subst e
 rw [sel_mem] at ha hb
 unfold nearP farP at *
 cases hn:near ds m a <;> simp [hn] at ha hb
theorem took_mem {ds:List Dv} {us:Nat→Bool} {kind:ByteArray} {m many j:Nat} (h:j∈took ds us kind m many):j<ds.length∧fits ds us kind j=true:=ord_mem.1 (List.mem_of_mem_take h)
theorem took_nodup (ds:List Dv) (us:Nat→Bool) (kind:ByteArray) (m many:Nat):(took ds us kind m many).Nodup:=List.Pairwise.sublist (List.take_sublist _ _) (ord_nodup ds us kind m)
theorem srt_mem {l:List Nat} (h16:∀ j∈l,j<16) {j:Nat}:j∈srt l↔j∈l:=by
 unfold srt
 rw [sel_mem]
 constructor
 ·intro ⟨_,h⟩;simpa using h
 ·intro h;exact ⟨h16 j h,by simpa using h⟩
theorem srt_perm {l:List Nat} (h16:∀ j∈l,j<16) (hn:l.Nodup):(srt l).Perm l:=by
 refine (List.perm_ext_iff_of_nodup (sel_nodup _ _) hn).2 fun j=>?_
 exact srt_mem h16
theorem srt_len {l:List Nat} (h16:∀ j∈l,j<16) (hn:l.Nodup):(srt l).length=l.length:=(srt_perm h16 hn).length_eq
theorem rise_eq {l k:List Int} (hp:l.Perm k) (hl:l.Pairwise (·≤·)) (hk:k.Pairwise (·≤·)):l=k:=
 hp.eq_of_pairwise (fun _ _ _ _ h1 h2=>Int.le_antisymm h1 h2) hl hk
theorem sorted_srt {l:List Nat} (h16:∀ j∈l,j<16) (hn:l.Nodup):(l.map (fun j:Nat=>(j:Int))).mergeSort (fun x y=>decide (x≤y))=(srt l).map (fun j:Nat=>(j:Int)):=by
 refine rise_eq ?_ ?_ ?_
 ·exact (List.mergeSort_perm _ _).trans ((srt_perm h16 hn).map _).symm
 ·have h:=List.pairwise_mergeSort (le:=fun x y:Int=>decide (x≤y)) (fun a b c h1 h2=>by simp at *;omega) (fun a b=>by simp;omega) (l.map (fun j:Nat=>(j:Int)))
  exact h.imp (fun {a b} hab=>by simpa using hab)
 ·rw [List.pairwise_map]
  exact (sel_rising _ _).imp (fun {a b} hab=>by omega)
def first (f:Nat→Nat):Nat→Nat
 | 0=>0
 | k+1=>if first f k=0 then f k else first f k
theorem first_zero {f:Nat→Nat} {k:Nat} (h:first f k=0) (h2:f k=0):first f (k+1)=0:=by rw [first,if_pos h,h2]
theorem first_stay {f:Nat→Nat} {k:Nat} (h:first f k≠0) (j:Nat):first f (k+j)=first f k:=by
 induction j with
 | zero=>rfl
 | succ j ih=>rw [← Nat.add_assoc,first,if_neg (by rw [ih];exact h),ih]
theorem first_hit {f:Nat→Nat} {k n:Nat} (h:first f k=0) (h2:f k≠0) (hk:k<n):first f n=f k:=by
 have e:first f (k+1)=f k:=by rw [first,if_pos h]
 have:=first_stay (f:=f) (k:=k+1) (by rw [e];exact h2) (n - (k+1))
 rw [show k+1+(n - (k+1))=n by omega] at this
 rw [this,e]
theorem first_all {f:Nat→Nat} {n:Nat} (h:first f n=0):∀ k,k<n→f k=0:=by
 induction n with
 | zero=>intro k hk;omega
 | succ n ih=>
  rw [first] at h
  split at h
  ·rename_i h0
   intro k hk
   by_cases e:k=n
   ·subst e;exact h
   ·exact ih h0 k (by omega)
  ·rename_i h0;exact absurd h h0
theorem first_none {f:Nat→Nat} {n:Nat} (h:∀ k,k<n→f k=0):first f n=0:=by
 induction n with
 | zero=>rfl
 | succ n ih=>exact first_zero (ih (fun k hk=>h k (by omega))) (h n (by omega))
def clF (n:Nat) (us:Nat→Bool) (l:List Int) (k:Nat):Nat:=
 if nth l k<0∨(n:Int)≤nth l k then 1 else if (us (nth l k).toNat || decide (nth l k∈l.take k))=true then 5 else 0
def gvF (n:Nat) (us:Nat→Bool) (l:List Int) (k:Nat):Nat:=
 if nth l k<0∨(n:Int)≤nth l k then 1 else if us (nth l k).toNat=true then 0 else 6
def claimed (us:Nat→Bool) (l:List Int) (j:Nat):Bool:=us j || decide ((j:Int)∈l)
def given (us:Nat→Bool) (l:List Int) (j:Nat):Bool:=us j && !decide ((j:Int)∈l)
theorem claimed_nil (us:Nat→Bool):claimed us []=us:=by funext j;simp [claimed]
theorem claimed_snoc (us:Nat→Bool) (l:List Int) (x:Int) (h:0≤x) (j:Nat):claimed us (l++[x]) j=(claimed us l j || decide (j=x.toNat)):=by
 unfold claimed
 have e:decide ((j:Int)∈l++[x])=(decide ((j:Int)∈l) || decide (j=x.toNat)):=by
  rw [← Bool.decide_or]
  apply decide_eq_decide.2
  have e2:((j:Int)=x)↔(j=x.toNat):=by omega
  rw [List.mem_append,List.mem_singleton,e2]
 rw [e,Bool.or_assoc]
def isLet (b:UInt8):Bool:=decide (97≤b.toNat) && decide (b.toNat≤122)
def isNum (b:UInt8):Bool:=decide (48≤b.toNat∧b.toNat≤57)
def okB (s:ByteArray) (i:Nat):Bool:=isLet (s.data.toList.getD i 0) || (isNum (s.data.toList.getD i 0) && decide (0<i))
theorem byte_at (s:ByteArray) (k:Nat) (h:k<s.size):s.data.toList.getD k 0=s[k]:=by
 have h2:k<s.data.size:=h
 rw [List.getD_eq_getElem?_getD,Array.getElem?_toList,Array.getElem?_eq_getElem h2]
 rfl
theorem okB_at (s:ByteArray) (k:Nat) (h:k<s.size):okB s k=(isLet s[k] || (isNum s[k] && decide (0<k))):=by rw [okB,byte_at s k h]
def allTo (f:Nat→Bool):Nat→Bool
 | 0=>true
 | k+1=>allTo f k && f k
theorem allTo_yes {f:Nat→Bool} {k:Nat} (h:allTo f k=true) (h2:f k=true):allTo f (k+1)=true:=by rw [allTo,h,h2];rfl
theorem allTo_no {f:Nat→Bool} {k n:Nat} (h2:f k=false) (hk:k<n):allTo f n=false:=by
 induction n with
 | zero=>omega
 | succ n ih=>
  rw [allTo]
  by_cases e:k=n
  ·subst e;rw [h2,Bool.and_false]
  ·rw [ih (by omega),Bool.false_and]
def nameMay (s:ByteArray):Bool:=decide (0<s.size) && decide (s.size≤8) && allTo (okB s) s.size
theorem nameMay_none {s:ByteArray} (h:s.size=0):nameMay s=false:=by simp [nameMay,h]
theorem nameMay_long {s:ByteArray} (h:8<s.size):nameMay s=false:=by simp [nameMay];omega
theorem nameMay_all {s:ByteArray} (h0:0<s.size) (h8:s.size≤8):nameMay s=allTo (okB s) s.size:=by rw [nameMay,decide_eq_true h0,decide_eq_true h8];rfl
def newF (ds:List Dv) (k:Nat):Nat:=if nameMay (dv ds k).kind=false then 3 else if (dv ds k).node<0∨3<(dv ds k).node then 1 else 0
def fault (ds:List Dv):Nat:=if 16<ds.length then 2 else first (newF ds) ds.length
def Nodes (ds:List Dv):Prop:=ds.length≤16∧∀ k,k<ds.length→0≤(dv ds k).node∧(dv ds k).node≤3
theorem fault_nodes {ds:List Dv} (h:fault ds=0):Nodes ds:=by
 unfold fault at h
 split at h
 ·cases h
 ·refine ⟨by omega,fun k hk=>?_⟩
  have:=first_all h k hk
  unfold newF at this
  split at this
  ·cases this
  ·split at this
   ·cases this
   ·omega
def cn (p:Nat→Bool) (ds:List Dv) (x n:Nat):Nat:=(sel (fun j=>p j && decide ((dv ds j).node=(x:Int))) n).length
theorem cn_le (p:Nat→Bool) (ds:List Dv) (x n:Nat):cn p ds x n≤n:=sel_le _ _
theorem cn_no {p:Nat→Bool} {ds:List Dv} {n:Nat} (h:p n=false) (x:Nat):cn p ds x (n+1)=cn p ds x n:=by
 unfold cn;rw [sel_no (by rw [h];rfl)]
theorem cn_yes {p:Nat→Bool} {ds:List Dv} {n:Nat} (h:p n=true) (h0:0≤(dv ds n).node) (x:Nat):cn p ds x (n+1)=cn p ds x n+(if x=(dv ds n).node.toNat then 1 else 0):=by
 unfold cn
 by_cases e:x=(dv ds n).node.toNat
 ·rw [sel_yes (by rw [h,decide_eq_true (by omega)];rfl),if_pos e];simp
 ·rw [sel_no (by rw [h,decide_eq_false (by omega)];rfl),if_neg e];rfl
def kindP (ds:List Dv) (kind:ByteArray) (k:Nat):Bool:=decide ((dv ds k).kind=kind) && !(dv ds k).sick
theorem fits_kind (ds:List Dv) (us:Nat→Bool) (kind:ByteArray) (k:Nat):fits ds us kind k=(kindP ds kind k && !us k):=rfl
def takeF (ds:List Dv) (us:Nat→Bool) (kind:ByteArray) (many:Int):Nat:=if many<0 then 1 else if ((sel (fits ds us kind) ds.length).length:Int)<many then 9 else 0
end Dvs
end
section
open Go.RowKit
theorem digit_yes (b:UInt8) (w:World) (h:Ost.isDig b=true) :
  Calls Tryz.prog 83 #[.int .u8 b.toNat] w fun e w'=>e=.returned (.tuple #[.int .i64 (b.toNat - 48),.bool true])∧w'=w:=by
 have h1:=((Ost.isDig_iff b).1 h).1
 have h2:=((Ost.isDig_iff b).1 h).2
 clear h
 go_enter Tryz.func83,Tryz.ntmps83
 go_wp2
 go_ret2
 exact ⟨rfl,rfl⟩
theorem digit_no (b:UInt8) (w:World) (h:Ost.isDig b=false) :
  Calls Tryz.prog 83 #[.int .u8 b.toNat] w fun e w'=>e=.returned (.tuple #[.int .i64 0,.bool false])∧w'=w:=by
 have h1:=(Ost.isDig_not b).1 h
 clear h
 by_cases h2:48≤b.toNat
 ·have h3:57<b.toNat:=by omega
  clear h1
  go_enter Tryz.func83,Tryz.ntmps83
  go_wp2
  go_ret2
  exact ⟨rfl,rfl⟩
 ·clear h1
  go_enter Tryz.func83,Tryz.ntmps83
  go_wp2
  go_ret2
  exact ⟨rfl,rfl⟩
end
section
namespace Qos
open Dvs (first nameMay allTo)
structure Nd where
 kind:ByteArray
 many:Int
def nd0:Nd:=⟨ByteArray.empty,0⟩
structure Ct where
 nm:ByteArray
 am:Int
 ab:Int
 cm:Int
 cb:Int
 ds:List Nd
def ct0:Ct:=⟨ByteArray.empty,0,0,0,0,[]⟩
structure Pd where
 nm:ByteArray
 pr:Int
 cs:List Ct
def pd0:Pd:=⟨ByteArray.empty,0,[]⟩
instance:Inhabited Nd:=⟨nd0⟩
instance:Inhabited Ct:=⟨ct0⟩
instance:Inhabited Pd:=⟨pd0⟩
def nd (l:List Nd) (k:Nat):Nd:=l.getD k nd0
def ct (l:List Ct) (k:Nat):Ct:=l.getD k ct0
def pd (l:List Pd) (k:Nat):Pd:=l.getD k pd0
def leS (a b:ByteArray):Bool:=Op.bytesLess a.toList b.toList || a.toList == b.toList
def needF (ds:List Nd) (j:Nat):Nat:=
 if nameMay (nd ds j).kind=false∨(0<j∧leS (nd ds j).kind (nd ds (j - 1)).kind=true) then 3
 else if (nd ds j).many<1∨16<(nd ds j).many then 1 else 0
def amtOk (m b:Int):Bool:=decide (0≤m) && decide (m≤1000000) && decide (0≤b) && decide (b≤1125899906842624)
def over (a c:Int):Bool:=decide (c≠0) && decide (c<a)
def twice (cs:List Ct) (k:Nat):Bool:=(cs.take k).any fun o=>decide (o.nm=(ct cs k).nm)
def contF (cs:List Ct) (k:Nat):Nat:=
 if nameMay (ct cs k).nm=false then 3
 else if twice cs k=true then 5
 else if amtOk (ct cs k).am (ct cs k).ab=false∨amtOk (ct cs k).cm (ct cs k).cb=false then 1
 else if over (ct cs k).am (ct cs k).cm=true∨over (ct cs k).ab (ct cs k).cb=true then 3
 else if 3<(ct cs k).ds.length then 2
 else first (needF (ct cs k).ds) (ct cs k).ds.length
def podF (p:Pd):Nat:=
 if nameMay p.nm=false then 3
 else if p.pr<0∨1000<p.pr then 1
 else if p.cs.length<1∨3<p.cs.length then 2
 else first (contF p.cs) p.cs.length
def quiet (c:Ct):Bool:=decide (c.am=0) && decide (c.ab=0) && decide (c.cm=0) && decide (c.cb=0)
def sure (c:Ct):Bool:=decide (c.am=c.cm) && decide (c.ab=c.cb) && decide (c.am≠0) && decide (c.ab≠0)
def silent (cs:List Ct) (n:Nat):Bool:=allTo (fun k=>quiet (ct cs k)) n
def certain (cs:List Ct) (n:Nat):Bool:=allTo (fun k=>sure (ct cs k)) n
def classOf (cs:List Ct):Int:=if silent cs cs.length=true then 1 else if certain cs cs.length=true then 3 else 2
def sumTo (f:Nat→Int):Nat→Int
 | 0=>0
 | k+1=>sumTo f k+f k
def sumM (cs:List Ct) (n:Nat):Int:=sumTo (fun k=>(ct cs k).am) n
def sumB (cs:List Ct) (n:Nat):Int:=sumTo (fun k=>(ct cs k).ab) n
def ownOf (cs:List Ct) (m:Int):Int:=if classOf cs=3∧m % 1000=0 then m / 1000 else 0
def Mild (cs:List Ct):Prop:=cs.length≤3∧∀ k,k<cs.length→(0≤(ct cs k).am∧(ct cs k).am≤1000000)∧(0≤(ct cs k).ab∧(ct cs k).ab≤1125899906842624)∧(0≤(ct cs k).cm∧(ct cs k).cm≤1000000)∧(0≤(ct cs k).cb∧(ct cs k).cb≤1125899906842624)∧((ct cs k).cm≠0→(ct cs k).am≤(ct cs k).cm)∧((ct cs k).cb≠0→(ct cs k).ab≤(ct cs k).cb)
theorem amt_in {m b:Int} (h:amtOk m b=true):(0≤m∧m≤1000000)∧(0≤b∧b≤1125899906842624):=by
 simp [amtOk] at h;omega
theorem cont_mild {cs:List Ct} {k:Nat} (h:contF cs k=0):amtOk (ct cs k).am (ct cs k).ab=true∧amtOk (ct cs k).cm (ct cs k).cb=true∧over (ct cs k).am (ct cs k).cm=false∧over (ct cs k).ab (ct cs k).cb=false:=by
 unfold contF at h
 split at h
 ·cases h
 split at h
 ·cases h
 split at h
 ·cases h
 split at h
 ·cases h
 ·rename_i h1 h2
  rw [not_or] at h1 h2
  exact ⟨by simpa using h1.1,by simpa using h1.2,by simpa using h2.1,by simpa using h2.2⟩
theorem pod_len {p:Pd} (h:podF p=0):nameMay p.nm=true∧(0≤p.pr∧p.pr≤1000)∧(1≤p.cs.length∧p.cs.length≤3)∧first (contF p.cs) p.cs.length=0:=by
 unfold podF at h
 split at h
 ·cases h
 split at h
 ·cases h
 split at h
 ·cases h
 ·rename_i h1 h2 h3
  exact ⟨by simpa using h1,by omega,by omega,h⟩
theorem pod_mild {p:Pd} (h:podF p=0):Mild p.cs:=by
 obtain ⟨_,_,⟨_,h3⟩,hf⟩:=pod_len h
 refine ⟨h3,fun k hk=>?_⟩
 obtain ⟨h1,h2,h4,h5⟩:=cont_mild (Dvs.first_all hf k hk)
 obtain ⟨a1,a2⟩:=amt_in h1
 obtain ⟨a3,a4⟩:=amt_in h2
 refine ⟨a1,a2,a3,a4,?_,?_⟩
 ·intro h0
  simp [over,h0] at h4
  exact h4
 ·intro h0
  simp [over,h0] at h5
  exact h5
theorem sumTo_le {f g:Nat→Int} {n:Nat} (h:∀ k,k<n→f k≤g k):sumTo f n≤sumTo g n:=by
 induction n with
 | zero=>exact Int.le_refl _
 | succ n ih=>
  have h1:=ih (fun k hk=>h k (by omega))
  have h2:=h n (by omega)
  simp only [sumTo]
  omega
theorem sumTo_nonneg {f:Nat→Int} {n:Nat} (h:∀ k,k<n→0≤f k):0≤sumTo f n:=by
 induction n with
 | zero=>exact Int.le_refl _
 | succ n ih=>
  have h1:=ih (fun k hk=>h k (by omega))
  have h2:=h n (by omega)
  simp only [sumTo]
  omega
theorem sumTo_most {f:Nat→Int} {n:Nat} {B:Int} (h:∀ k,k<n→f k≤B):sumTo f n≤n*B:=by
 induction n with
 | zero=>simp [sumTo]
 | succ n ih=>
  have h1:=ih (fun k hk=>h k (by omega))
  have h2:=h n (by omega)
  simp only [sumTo]
  have e:((n+1:Nat):Int)*B=n*B+B:=by rw [Int.natCast_add,Int.add_mul];simp
  omega
theorem sumM_in {cs:List Ct} (hm:Mild cs) {n:Nat} (hn:n≤cs.length):0≤sumM cs n∧sumM cs n≤3000000:=by
 have h1:=sumTo_nonneg (f:=fun k=>(ct cs k).am) (n:=n) (fun k hk=>(hm.2 k (by omega)).1.1)
 have h2:=sumTo_most (f:=fun k=>(ct cs k).am) (n:=n) (B:=1000000) (fun k hk=>(hm.2 k (by omega)).1.2)
 have:=hm.1
 unfold sumM
 omega
theorem sumB_in {cs:List Ct} (hm:Mild cs) {n:Nat} (hn:n≤cs.length):0≤sumB cs n∧sumB cs n≤3377699720527872:=by
 have h1:=sumTo_nonneg (f:=fun k=>(ct cs k).ab) (n:=n) (fun k hk=>(hm.2 k (by omega)).2.1.1)
 have h2:=sumTo_most (f:=fun k=>(ct cs k).ab) (n:=n) (B:=1125899906842624) (fun k hk=>(hm.2 k (by omega)).2.1.2)
 have:=hm.1
 unfold sumB
 omega
def lastOf (ds:List Nd) (k:Nat):ByteArray:=if k=0 then ByteArray.empty else (nd ds (k - 1)).kind
theorem last_succ (ds:List Nd) (k:Nat):lastOf ds (k+1)=(nd ds k).kind:=by simp [lastOf]
theorem leS_empty {s:ByteArray} (h:nameMay s=true):leS s ByteArray.empty=false:=by
 unfold nameMay at h
 have h0:0<s.size:=by
  simp at h;omega
 have h1:s.toList≠[]:=by
  intro e
  rw [ByteArray.toList_eq] at e
  have:s.data.toList.length=0:=by rw [e];rfl
  rw [Array.length_toList] at this
  have h2:s.data.size=s.size:=rfl
  omega
 unfold leS
 rw [show ByteArray.empty.toList=[] by rw [ByteArray.toList_eq];rfl]
 cases hs:s.toList with
 | nil=>exact absurd hs h1
 | cons a l=>simp [Op.bytesLess]
theorem need_name {ds:List Nd} {k:Nat} (h:nameMay (nd ds k).kind=false):needF ds k=3:=by unfold needF;rw [if_pos (.inl h)]
theorem need_le {ds:List Nd} {k:Nat} (h:nameMay (nd ds k).kind=true) (h2:leS (nd ds k).kind (lastOf ds k)=true):needF ds k=3:=by
 unfold needF
 by_cases h0:k=0
 ·subst h0
  rw [show lastOf ds 0=ByteArray.empty from rfl,leS_empty h] at h2
  cases h2
 ·rw [lastOf,if_neg h0] at h2
  rw [if_pos (.inr ⟨by omega,h2⟩)]
theorem need_many {ds:List Nd} {k:Nat} (h:nameMay (nd ds k).kind=true) (h2:leS (nd ds k).kind (lastOf ds k)=false):needF ds k=if (nd ds k).many<1∨16<(nd ds k).many then 1 else 0:=by
 unfold needF
 rw [if_neg]
 rintro (h3|⟨h3,h4⟩)
 ·rw [h] at h3;cases h3
 ·rw [lastOf,if_neg (by omega)] at h2
  rw [h2] at h4;cases h4
end Qos
end
section
namespace Sv
def fnvStep (h:Nat) (b:UInt8):Nat:=(h ^^^ b.toNat)*16777619 % 4294967296
def fnv (l:List UInt8):Nat:=l.foldl fnvStep 2166136261
theorem fnv_snoc (l:List UInt8) (b:UInt8):fnv (l++[b])=fnvStep (fnv l) b:=by
 unfold fnv
 rw [List.foldl_append,List.foldl_cons,List.foldl_nil]
theorem fnv_lt (l:List UInt8):fnv l<4294967296:=by
 rcases List.eq_nil_or_concat l with rfl|⟨l,b,rfl⟩
 ·unfold fnv;rw [List.foldl_nil];omega
 ·rw [List.concat_eq_append,fnv_snoc];unfold fnvStep;exact Nat.mod_lt _ (by omega)
theorem fnv_take {l:List UInt8} {k:Nat} (h:k<l.length):fnv (l.take (k+1))=fnvStep (fnv (l.take k)) l[k]:=by
 rw [← fnv_snoc,List.take_add_one,List.getElem?_eq_getElem h,Option.toList_some]
theorem xor_lt {a b:Nat} (ha:a<4294967296) (hb:b<4294967296):a ^^^ b<4294967296:=Nat.xor_lt_two_pow (n:=32) ha hb
theorem xor_u32 {a b:Nat} (ha:a<4294967296) (hb:b<4294967296):bits .xor .u32 (a:Int) (b:Int)=((a ^^^ b:Nat):Int):=by
 have h1:(BitVec.ofInt 32 (a:Int)).toNat=a:=by rw [BitVec.toNat_ofInt];omega
 have h2:(BitVec.ofInt 32 (b:Int)).toNat=b:=by rw [BitVec.toNat_ofInt];omega
 show IntKind.u32.wrap ((BitVec.ofInt 32 (a:Int) ^^^ BitVec.ofInt 32 (b:Int)).toNat:Int)=_
 rw [BitVec.toNat_xor,h1,h2]
 have:=xor_lt ha hb
 rw [IntKind.wrap_u32]
 omega
theorem step_u32 (h:Nat) (b:UInt8):IntKind.u32.wrap (((h ^^^ b.toNat:Nat):Int)*16777619)=(fnvStep h b:Nat):=by
 unfold fnvStep
 rw [IntKind.wrap_u32]
 omega
end Sv
end
section
namespace Ost

def cut1 (c:UInt8):List UInt8→List UInt8 × List UInt8 × Bool
 | []=>([],[],false)
 | b :: l=>if b=c then ([],l,true) else (b :: (cut1 c l).1,(cut1 c l).2.1,(cut1 c l).2.2)
def bound:Option Int→Int × Int
 | none=>(0,4)
 | some v=>if 1000000<v then (0,1) else (v,0)
end Ost
end
end Go.Proofs.YtbfdcmodflnkfaaGreatDoor
namespace Go.Proofs
open Go.Shelf
def Tryz.lays169_ren:Go.Shelf.Ren:=⟨fun|169=>112|n=>n,fun|70=>193|9=>9|0=>0|72=>196|37=>194|127=>247|3=>3|5=>5|n=>n,fun|n=>n⟩
theorem Tryz.lays169:Go.Proofs.Lays.n169 Tryz.prog Tryz.lays169_ren:={
 mixed:=by kernel_rfl
 f169:=Tryz.func112.trans (congrArg some (by kernel_rfl))
 t0:=Tryz.underlying0
 a0:=Tryz.isAgg0
 z0:=Tryz.sizeOf0
 v0:=Tryz.zeroValue0
 t3:=Tryz.underlying3
 a3:=Tryz.isAgg3
 z3:=Tryz.sizeOf3
 v3:=Tryz.zeroValue3
 t9:=Tryz.underlying9
 a9:=Tryz.isAgg9
 z9:=Tryz.sizeOf9
 v9:=Tryz.zeroValue9
 t37:=Tryz.underlying194
 a37:=Tryz.isAgg194
 z37:=Tryz.sizeOf194
 v37:=Tryz.zeroValue194
 t70:=Tryz.underlying193
 a70:=Tryz.isAgg193
 z70:=Tryz.sizeOf193
 v70:=Tryz.zeroValue193
 t72:=Tryz.underlying196
 a72:=Tryz.isAgg196
 z72:=Tryz.sizeOf196
 v72:=Tryz.zeroValue196
 t127:=Tryz.underlying247
 a127:=Tryz.isAgg247
 z127:=Tryz.sizeOf247
 v127:=Tryz.zeroValue247 }
theorem Tryz.Builder_Extra_169:Builder.Extra Tryz.prog Tryz.lays169_ren:={
 sizeBuilder:=by kernel_rfl
 liesBuilder:=by kernel_rfl
 t5:=Tryz.underlying5
 a5:=Tryz.isAgg5
 z5:=Tryz.sizeOf5
 v5:=Tryz.zeroValue5
 infoByte:=by kernel_rfl
 cellsByte:=by kernel_rfl
 sizeByte:=by kernel_rfl
 neB5:=by decide }
def Tryz.lays156_ren:Go.Shelf.Ren:=⟨fun|156=>183|165=>213|166=>108|169=>112|240=>142|241=>242|276=>182|277=>268|n=>n,fun|31=>110|9=>9|3=>3|4=>4|0=>0|20=>20|72=>196|76=>197|70=>193|37=>194|75=>44|127=>247|164=>280|5=>5|80=>202|n=>n,fun|n=>n⟩
theorem Tryz.lays156:Go.Proofs.Lays.n156 Tryz.prog Tryz.lays156_ren:={
 mixed:=by kernel_rfl
 f156:=Tryz.func183.trans (congrArg some (by kernel_rfl))
 f165:=Tryz.func213.trans (congrArg some (by kernel_rfl))
 f166:=Tryz.func108.trans (congrArg some (by kernel_rfl))
 f169:=Tryz.func112.trans (congrArg some (by kernel_rfl))
 f240:=Tryz.func142.trans (congrArg some (by kernel_rfl))
 f241:=Tryz.func242.trans (congrArg some (by kernel_rfl))
 f276:=Tryz.func182.trans (congrArg some (by kernel_rfl))
 f277:=Tryz.func268.trans (congrArg some (by kernel_rfl))
 t0:=Tryz.underlying0
 a0:=Tryz.isAgg0
 z0:=Tryz.sizeOf0
 v0:=Tryz.zeroValue0
 t3:=Tryz.underlying3
 a3:=Tryz.isAgg3
 z3:=Tryz.sizeOf3
 v3:=Tryz.zeroValue3
 t4:=Tryz.underlying4
 a4:=Tryz.isAgg4
 z4:=Tryz.sizeOf4
 v4:=Tryz.zeroValue4
 t9:=Tryz.underlying9
 a9:=Tryz.isAgg9
 z9:=Tryz.sizeOf9
 v9:=Tryz.zeroValue9
 t20:=Tryz.underlying20
 a20:=Tryz.isAgg20
 z20:=Tryz.sizeOf20
 v20:=Tryz.zeroValue20
 t31:=Tryz.underlying110
 a31:=Tryz.isAgg110
 z31:=Tryz.sizeOf110
 v31:=Tryz.zeroValue110
 t37:=Tryz.underlying194
 a37:=Tryz.isAgg194
 z37:=Tryz.sizeOf194
 v37:=Tryz.zeroValue194
 t70:=Tryz.underlying193
 a70:=Tryz.isAgg193
 z70:=Tryz.sizeOf193
 v70:=Tryz.zeroValue193
 t72:=Tryz.underlying196
 a72:=Tryz.isAgg196
 z72:=Tryz.sizeOf196
 v72:=Tryz.zeroValue196
 t75:=Tryz.underlying44
 a75:=Tryz.isAgg44
 z75:=Tryz.sizeOf44
 v75:=Tryz.zeroValue44
 t76:=Tryz.underlying197
 a76:=Tryz.isAgg197
 z76:=Tryz.sizeOf197
 v76:=Tryz.zeroValue197
 t127:=Tryz.underlying247
 a127:=Tryz.isAgg247
 z127:=Tryz.sizeOf247
 v127:=Tryz.zeroValue247
 t164:=Tryz.underlying280
 a164:=Tryz.isAgg280
 z164:=Tryz.sizeOf280
 v164:=Tryz.zeroValue280 }
theorem Tryz.Builder_Extra_156:Builder.Extra Tryz.prog Tryz.lays156_ren:={
 sizeBuilder:=by kernel_rfl
 liesBuilder:=by kernel_rfl
 t5:=Tryz.underlying5
 a5:=Tryz.isAgg5
 z5:=Tryz.sizeOf5
 v5:=Tryz.zeroValue5
 infoByte:=by kernel_rfl
 cellsByte:=by kernel_rfl
 sizeByte:=by kernel_rfl
 neB5:=by decide }
open Go.RowKit in
theorem Tryz.strings_Join_none (a:Option Addr) (c:Nat) (sep:ByteArray) (w:World) :
  Calls Tryz.prog 183 #[.slice a 0 c,.string sep] w fun e w'=>e=.returned (.string ⟨#[]⟩)∧w'=w:=Any.strings_Join_none Tryz.lays156 Tryz.Builder_Extra_156 a c sep w
open Go.RowKit in
theorem Tryz.strings_Join (bk o c:Nat) (xs:List ByteArray) (sep:ByteArray) (w:World) (hcells:∀ (j:Nat) x,xs[j]?=some x→w.cell? ⟨bk,o+j,none⟩=some (.string x)) (hbk:bk<w.heap.size) (hN:xs.length≤140737488355328) (hcap:xs.length≤c) (hlen:(Lib.join (xs.map (·.data.toList)) sep.data.toList).length≤140737488355328) :
  Calls Tryz.prog 183 #[.slice (some ⟨bk,o,none⟩) xs.length c,.string sep] w fun e w'=>e=.returned (.string ⟨(Lib.join (xs.map (·.data.toList)) sep.data.toList).toArray⟩)∧Below w.heap.size w w':=Any.strings_Join Tryz.lays156 Tryz.Builder_Extra_156 bk o c xs sep w hcells hbk hN hcap hlen
open Go.RowKit in
theorem Tryz.Builder_String_any_k (B b:Nat) (l:List UInt8) (w:World) (h:Lib.IsBuilderF 196 5 B b (Lib.byteCells l) w) (hBw:B≤w.heap.size) :
  Calls Tryz.prog 112 #[.pointer (some ⟨b,0,none⟩)] w fun e w'=>e=.returned (.string ⟨l.toArray⟩)∧(Lib.IsBuilderF 196 5 B b (Lib.byteCells l) w'∧Below B w w'∧Lib.OthersKept 5 (some b) w w'):=Any.Builder_String_any_k Tryz.lays169 Tryz.Builder_Extra_169 B b l w h hBw
def Tryz.lays283_ren:Go.Shelf.Ren:=⟨fun|283=>215|n=>n,fun|3=>3|9=>9|4=>4|n=>n,fun|n=>n⟩
theorem Tryz.lays283:Go.Proofs.Lays.n283 Tryz.prog Tryz.lays283_ren:={
 mixed:=by kernel_rfl
 f283:=Tryz.func215.trans (congrArg some (by kernel_rfl))
 t3:=Tryz.underlying3
 a3:=Tryz.isAgg3
 z3:=Tryz.sizeOf3
 v3:=Tryz.zeroValue3
 t4:=Tryz.underlying4
 a4:=Tryz.isAgg4
 z4:=Tryz.sizeOf4
 v4:=Tryz.zeroValue4
 t9:=Tryz.underlying9
 a9:=Tryz.isAgg9
 z9:=Tryz.sizeOf9
 v9:=Tryz.zeroValue9 }
open Go.Lib in
theorem Tryz.internal_strconv_small (i:Nat) (h:i<100) (w:World) :
  Calls Tryz.prog 215 #[.int .i64 i] w fun e w'=>e=.returned (.string ⟨(Lib.decDigits i).toArray⟩)∧w'=w:=Any.internal_strconv_small Tryz.lays283 i h w
def Tryz.laysM284_ren:Go.Shelf.Ren:=⟨fun|284=>216|129=>180|317=>243|318=>244|n=>n,fun|53=>23|3=>3|212=>341|0=>0|4=>4|46=>72|5=>5|9=>9|n=>n,fun|17=>0|n=>n⟩
theorem Tryz.laysM284:Go.Proofs.LaysM.n284 Tryz.prog Tryz.laysM284_ren:={
 mixed:=by kernel_rfl
 f129:=Tryz.func180.trans (congrArg some (by kernel_rfl))
 f284:=Tryz.func216.trans (congrArg some (by kernel_rfl))
 f317:=Tryz.func243.trans (congrArg some (by kernel_rfl))
 f318:=Tryz.func244.trans (congrArg some (by kernel_rfl))
 t0:=Tryz.underlying0
 a0:=Tryz.isAgg0
 z0:=Tryz.sizeOf0
 v0:=Tryz.zeroValue0
 t3:=Tryz.underlying3
 a3:=Tryz.isAgg3
 z3:=Tryz.sizeOf3
 v3:=Tryz.zeroValue3
 t4:=Tryz.underlying4
 a4:=Tryz.isAgg4
 z4:=Tryz.sizeOf4
 v4:=Tryz.zeroValue4
 t5:=Tryz.underlying5
 a5:=Tryz.isAgg5
 z5:=Tryz.sizeOf5
 v5:=Tryz.zeroValue5
 t9:=Tryz.underlying9
 a9:=Tryz.isAgg9
 z9:=Tryz.sizeOf9
 v9:=Tryz.zeroValue9
 t46:=Tryz.underlying72
 a46:=Tryz.isAgg72
 z46:=Tryz.sizeOf72
 v46:=Tryz.zeroValue72
 t53:=Tryz.underlying23
 a53:=Tryz.isAgg23
 z53:=Tryz.sizeOf23
 v53:=Tryz.zeroValue23
 t212:=Tryz.underlying341
 a212:=Tryz.isAgg341
 z212:=Tryz.sizeOf341
 v212:=Tryz.zeroValue341
 g17:=by kernel_rfl
 i0:=by kernel_rfl
 i3:=by kernel_rfl
 i4:=by kernel_rfl
 i5:=by kernel_rfl
 i9:=by kernel_rfl
 i46:=by kernel_rfl
 i53:=by kernel_rfl
 i212:=by kernel_rfl
 m17:=by kernel_rfl }
open Go.Lib in
theorem Tryz.internal_strconv_numDigits (u : Nat) (h1 : 1 ≤ u) (h2 : u < 18446744073709551616) (w : World) (htab : Lib.TabIs Tryz.prog w "internal/strconv.uint64pow10" .u64 Lib.pow10Tab) :
  Calls Tryz.prog 216 #[.int .u64 u] w fun e w'=>e=.returned (.int .i64 (Lib.nDigits u))∧w'=w:=Any.internal_strconv_numDigits Tryz.laysM284 u h1 h2 w htab
def Tryz.lays285_ren:Go.Shelf.Ren:=⟨fun|285=>217|n=>n,fun|37=>194|53=>23|3=>3|4=>4|51=>249|9=>9|5=>5|0=>0|n=>n,fun|n=>n⟩
theorem Tryz.lays285:Go.Proofs.Lays.n285 Tryz.prog Tryz.lays285_ren:={
 mixed:=by kernel_rfl
 f285:=Tryz.func217.trans (congrArg some (by kernel_rfl))
 t0:=Tryz.underlying0
 a0:=Tryz.isAgg0
 z0:=Tryz.sizeOf0
 v0:=Tryz.zeroValue0
 t3:=Tryz.underlying3
 a3:=Tryz.isAgg3
 z3:=Tryz.sizeOf3
 v3:=Tryz.zeroValue3
 t4:=Tryz.underlying4
 a4:=Tryz.isAgg4
 z4:=Tryz.sizeOf4
 v4:=Tryz.zeroValue4
 t5:=Tryz.underlying5
 a5:=Tryz.isAgg5
 z5:=Tryz.sizeOf5
 v5:=Tryz.zeroValue5
 t9:=Tryz.underlying9
 a9:=Tryz.isAgg9
 z9:=Tryz.sizeOf9
 v9:=Tryz.zeroValue9
 t37:=Tryz.underlying194
 a37:=Tryz.isAgg194
 z37:=Tryz.sizeOf194
 v37:=Tryz.zeroValue194
 t51:=Tryz.underlying249
 a51:=Tryz.isAgg249
 z51:=Tryz.sizeOf249
 v51:=Tryz.zeroValue249
 t53:=Tryz.underlying23
 a53:=Tryz.isAgg23
 z53:=Tryz.sizeOf23
 v53:=Tryz.zeroValue23 }
open Go.RowKit Go.Sort Go.Lib in
theorem Tryz.internal_strconv_formatBase10 (blk off cap:Nat) (u:Nat) (d:Array UInt8) (w:World) (hH:Holds (fun (b:UInt8)=>Value.int .u8 (b.toNat:Int)) w blk off d) (hu:u<10 ^ d.size) (hu64:u<18446744073709551616) (hsz:d.size<4611686018427387904) :
  Calls Tryz.prog 217 #[.slice (some ⟨blk,off,none⟩) d.size cap,.int .u64 u] w fun e w'=>
   e=.returned (.tuple #[])∧∃ (n v':Nat) (dk:Array UInt8),w'=(putRow (fun (b:UInt8)=>Value.int .u8 (b.toNat:Int)) w blk off dk).drewN n∧FmtInv d.size u 0 v' dk:=Any.internal_strconv_formatBase10 Tryz.lays285 blk off cap u d w hH hu hu64 hsz
def Tryz.laysM246_ren:Go.Shelf.Ren:=⟨fun|246=>214|283=>215|284=>216|285=>217|286=>218|129=>180|317=>243|318=>244|319=>245|320=>246|337=>269|338=>270|n=>n,fun|2=>2|3=>3|9=>9|4=>4|171=>314|0=>0|53=>23|37=>194|5=>5|173=>316|212=>341|51=>249|20=>20|213=>342|46=>72|232=>370|233=>371|n=>n,fun|17=>0|18=>2|19=>3|n=>n⟩
def Tryz.laysM243_ren:Go.Shelf.Ren:=⟨fun|243=>184|246=>214|283=>215|284=>216|285=>217|286=>218|129=>180|317=>243|318=>244|319=>245|320=>246|337=>269|338=>270|n=>n,fun|3=>3|9=>9|2=>2|4=>4|171=>314|0=>0|53=>23|37=>194|5=>5|173=>316|212=>341|51=>249|20=>20|213=>342|46=>72|232=>370|233=>371|n=>n,fun|17=>0|18=>2|19=>3|n=>n⟩
def Tryz.laysM171_ren:Go.Shelf.Ren:=⟨fun|171=>144|243=>184|246=>214|283=>215|284=>216|285=>217|286=>218|129=>180|317=>243|318=>244|319=>245|320=>246|337=>269|338=>270|n=>n,fun|3=>3|9=>9|2=>2|4=>4|171=>314|0=>0|53=>23|37=>194|5=>5|173=>316|212=>341|51=>249|20=>20|213=>342|46=>72|232=>370|233=>371|n=>n,fun|17=>0|18=>2|19=>3|n=>n⟩
theorem Tryz.laysM171:Go.Proofs.LaysM.n171 Tryz.prog Tryz.laysM171_ren:={
 mixed:=by kernel_rfl
 f129:=Tryz.func180.trans (congrArg some (by kernel_rfl))
 f171:=Tryz.func144.trans (congrArg some (by kernel_rfl))
 f243:=Tryz.func184.trans (congrArg some (by kernel_rfl))
 f246:=Tryz.func214.trans (congrArg some (by kernel_rfl))
 f283:=Tryz.func215.trans (congrArg some (by kernel_rfl))
 f284:=Tryz.func216.trans (congrArg some (by kernel_rfl))
 f285:=Tryz.func217.trans (congrArg some (by kernel_rfl))
 f286:=Tryz.func218.trans (congrArg some (by kernel_rfl))
 f317:=Tryz.func243.trans (congrArg some (by kernel_rfl))
 f318:=Tryz.func244.trans (congrArg some (by kernel_rfl))
 f319:=Tryz.func245.trans (congrArg some (by kernel_rfl))
 f320:=Tryz.func246.trans (congrArg some (by kernel_rfl))
 f337:=Tryz.func269.trans (congrArg some (by kernel_rfl))
 f338:=Tryz.func270.trans (congrArg some (by kernel_rfl))
 t0:=Tryz.underlying0
 a0:=Tryz.isAgg0
 z0:=Tryz.sizeOf0
 v0:=Tryz.zeroValue0
 t2:=Tryz.underlying2
 a2:=Tryz.isAgg2
 z2:=Tryz.sizeOf2
 v2:=Tryz.zeroValue2
 t3:=Tryz.underlying3
 a3:=Tryz.isAgg3
 z3:=Tryz.sizeOf3
 v3:=Tryz.zeroValue3
 t4:=Tryz.underlying4
 a4:=Tryz.isAgg4
 z4:=Tryz.sizeOf4
 v4:=Tryz.zeroValue4
 t5:=Tryz.underlying5
 a5:=Tryz.isAgg5
 z5:=Tryz.sizeOf5
 v5:=Tryz.zeroValue5
 t9:=Tryz.underlying9
 a9:=Tryz.isAgg9
 z9:=Tryz.sizeOf9
 v9:=Tryz.zeroValue9
 t20:=Tryz.underlying20
 a20:=Tryz.isAgg20
 z20:=Tryz.sizeOf20
 v20:=Tryz.zeroValue20
 t37:=Tryz.underlying194
 a37:=Tryz.isAgg194
 z37:=Tryz.sizeOf194
 v37:=Tryz.zeroValue194
 t46:=Tryz.underlying72
 a46:=Tryz.isAgg72
 z46:=Tryz.sizeOf72
 v46:=Tryz.zeroValue72
 t51:=Tryz.underlying249
 a51:=Tryz.isAgg249
 z51:=Tryz.sizeOf249
 v51:=Tryz.zeroValue249
 t53:=Tryz.underlying23
 a53:=Tryz.isAgg23
 z53:=Tryz.sizeOf23
 v53:=Tryz.zeroValue23
 t171:=Tryz.underlying314
 a171:=Tryz.isAgg314
 z171:=Tryz.sizeOf314
 v171:=Tryz.zeroValue314
 t173:=Tryz.underlying316
 a173:=Tryz.isAgg316
 z173:=Tryz.sizeOf316
 v173:=Tryz.zeroValue316
 t212:=Tryz.underlying341
 a212:=Tryz.isAgg341
 z212:=Tryz.sizeOf341
 v212:=Tryz.zeroValue341
 t213:=Tryz.underlying342
 a213:=Tryz.isAgg342
 z213:=Tryz.sizeOf342
 t232:=Tryz.underlying370
 a232:=Tryz.isAgg370
 z232:=Tryz.sizeOf370
 v232:=Tryz.zeroValue370
 t233:=Tryz.underlying371
 a233:=Tryz.isAgg371
 z233:=Tryz.sizeOf371
 v233:=Tryz.zeroValue371
 g17:=by kernel_rfl
 g18:=by kernel_rfl
 g19:=by kernel_rfl
 i0:=by kernel_rfl
 i2:=by kernel_rfl
 i3:=by kernel_rfl
 i4:=by kernel_rfl
 i5:=by kernel_rfl
 i9:=by kernel_rfl
 i20:=by kernel_rfl
 i37:=by kernel_rfl
 i46:=by kernel_rfl
 i51:=by kernel_rfl
 i53:=by kernel_rfl
 i171:=by kernel_rfl
 i173:=by kernel_rfl
 i212:=by kernel_rfl
 i232:=by kernel_rfl
 i233:=by kernel_rfl
 m17:=by kernel_rfl
 m18:=by kernel_rfl
 m19:=by kernel_rfl }
open Go.RowKit Go.Sort Go.Lib in
theorem Tryz.strconv_Itoa (n : Int) (h0 : -9223372036854775808 ≤ n) (h1 : n ≤ 9223372036854775807) (w : World) (htab : Lib.TabIs Tryz.prog w "internal/strconv.uint64pow10" .u64 Lib.pow10Tab) :
  Calls Tryz.prog 144 #[.int .i64 n] w fun e w'=>e=.returned (.string ⟨(Lib.itoa n).toArray⟩)∧∃ k os,w'=grow (w.drewN k) os:=Any.strconv_Itoa Tryz.laysM171 n h0 h1 w htab
def Tryz.lays171_ren:Go.Shelf.Ren:=⟨fun|171=>144|243=>184|246=>214|283=>215|284=>216|285=>217|286=>218|129=>180|317=>243|318=>244|319=>245|320=>246|337=>269|338=>270|n=>n,fun|3=>3|9=>9|2=>2|4=>4|171=>314|0=>0|53=>23|37=>194|5=>5|173=>316|212=>341|51=>249|20=>20|213=>342|46=>72|232=>370|233=>371|n=>n,fun|17=>0|18=>2|19=>3|n=>n⟩
theorem Tryz.lays171:Go.Proofs.Lays.n171 Tryz.prog Tryz.lays171_ren:={
 mixed:=by kernel_rfl
 f129:=Tryz.func180.trans (congrArg some (by kernel_rfl))
 f171:=Tryz.func144.trans (congrArg some (by kernel_rfl))
 f243:=Tryz.func184.trans (congrArg some (by kernel_rfl))
 f246:=Tryz.func214.trans (congrArg some (by kernel_rfl))
 f283:=Tryz.func215.trans (congrArg some (by kernel_rfl))
 f284:=Tryz.func216.trans (congrArg some (by kernel_rfl))
 f285:=Tryz.func217.trans (congrArg some (by kernel_rfl))
 f286:=Tryz.func218.trans (congrArg some (by kernel_rfl))
 f317:=Tryz.func243.trans (congrArg some (by kernel_rfl))
 f318:=Tryz.func244.trans (congrArg some (by kernel_rfl))
 f319:=Tryz.func245.trans (congrArg some (by kernel_rfl))
 f320:=Tryz.func246.trans (congrArg some (by kernel_rfl))
 f337:=Tryz.func269.trans (congrArg some (by kernel_rfl))
 f338:=Tryz.func270.trans (congrArg some (by kernel_rfl))
 t0:=Tryz.underlying0
 a0:=Tryz.isAgg0
 z0:=Tryz.sizeOf0
 v0:=Tryz.zeroValue0
 t2:=Tryz.underlying2
 a2:=Tryz.isAgg2
 z2:=Tryz.sizeOf2
 v2:=Tryz.zeroValue2
 t3:=Tryz.underlying3
 a3:=Tryz.isAgg3
 z3:=Tryz.sizeOf3
 v3:=Tryz.zeroValue3
 t4:=Tryz.underlying4
 a4:=Tryz.isAgg4
 z4:=Tryz.sizeOf4
 v4:=Tryz.zeroValue4
 t5:=Tryz.underlying5
 a5:=Tryz.isAgg5
 z5:=Tryz.sizeOf5
 v5:=Tryz.zeroValue5
 t9:=Tryz.underlying9
 a9:=Tryz.isAgg9
 z9:=Tryz.sizeOf9
 v9:=Tryz.zeroValue9
 t20:=Tryz.underlying20
 a20:=Tryz.isAgg20
 z20:=Tryz.sizeOf20
 v20:=Tryz.zeroValue20
 t37:=Tryz.underlying194
 a37:=Tryz.isAgg194
 z37:=Tryz.sizeOf194
 v37:=Tryz.zeroValue194
 t46:=Tryz.underlying72
 a46:=Tryz.isAgg72
 z46:=Tryz.sizeOf72
 v46:=Tryz.zeroValue72
 t51:=Tryz.underlying249
 a51:=Tryz.isAgg249
 z51:=Tryz.sizeOf249
 v51:=Tryz.zeroValue249
 t53:=Tryz.underlying23
 a53:=Tryz.isAgg23
 z53:=Tryz.sizeOf23
 v53:=Tryz.zeroValue23
 t171:=Tryz.underlying314
 a171:=Tryz.isAgg314
 z171:=Tryz.sizeOf314
 v171:=Tryz.zeroValue314
 t173:=Tryz.underlying316
 a173:=Tryz.isAgg316
 z173:=Tryz.sizeOf316
 v173:=Tryz.zeroValue316
 t212:=Tryz.underlying341
 a212:=Tryz.isAgg341
 z212:=Tryz.sizeOf341
 v212:=Tryz.zeroValue341
 t213:=Tryz.underlying342
 a213:=Tryz.isAgg342
 z213:=Tryz.sizeOf342
 t232:=Tryz.underlying370
 a232:=Tryz.isAgg370
 z232:=Tryz.sizeOf370
 v232:=Tryz.zeroValue370
 t233:=Tryz.underlying371
 a233:=Tryz.isAgg371
 z233:=Tryz.sizeOf371
 v233:=Tryz.zeroValue371
 g17:=by kernel_rfl
 g18:=by kernel_rfl
 g19:=by kernel_rfl }
open Go.RowKit Go.Sort Go.Lib in
theorem Tryz.strconv_Itoa_small (i:Nat) (hi:i<100) (w:World) :
  Calls Tryz.prog 144 #[.int .i64 i] w fun e w'=>e=.returned (.string ⟨(Lib.decDigits i).toArray⟩)∧w'=w:=Any.strconv_Itoa_small Tryz.lays171 i hi w
def Tryz.lays219_ren:Go.Shelf.Ren:=⟨fun|219=>276|217=>251|225=>284|224=>285|267=>286|266=>272|314=>289|n=>n,fun|9=>9|3=>3|4=>4|5=>5|46=>72|146=>345|51=>249|n=>n,fun|1=>1|n=>n⟩
def Tryz.laysM219_ren:Go.Shelf.Ren:=⟨fun|219=>276|217=>251|225=>284|224=>285|267=>286|266=>272|314=>289|n=>n,fun|9=>9|3=>3|4=>4|5=>5|46=>72|146=>345|51=>249|n=>n,fun|1=>1|n=>n⟩
theorem Tryz.laysM219:Go.Proofs.LaysM.n219 Tryz.prog Tryz.laysM219_ren:={
 mixed:=by kernel_rfl
 f217:=Tryz.func251.trans (congrArg some (by kernel_rfl))
 f219:=Tryz.func276.trans (congrArg some (by kernel_rfl))
 f224:=Tryz.func285.trans (congrArg some (by kernel_rfl))
 f225:=Tryz.func284.trans (congrArg some (by kernel_rfl))
 f266:=Tryz.func272.trans (congrArg some (by kernel_rfl))
 f267:=Tryz.func286.trans (congrArg some (by kernel_rfl))
 f314:=Tryz.func289.trans (congrArg some (by kernel_rfl))
 t3:=Tryz.underlying3
 a3:=Tryz.isAgg3
 z3:=Tryz.sizeOf3
 v3:=Tryz.zeroValue3
 t4:=Tryz.underlying4
 a4:=Tryz.isAgg4
 z4:=Tryz.sizeOf4
 v4:=Tryz.zeroValue4
 t5:=Tryz.underlying5
 a5:=Tryz.isAgg5
 z5:=Tryz.sizeOf5
 v5:=Tryz.zeroValue5
 t9:=Tryz.underlying9
 a9:=Tryz.isAgg9
 z9:=Tryz.sizeOf9
 v9:=Tryz.zeroValue9
 t46:=Tryz.underlying72
 a46:=Tryz.isAgg72
 z46:=Tryz.sizeOf72
 v46:=Tryz.zeroValue72
 t51:=Tryz.underlying249
 a51:=Tryz.isAgg249
 z51:=Tryz.sizeOf249
 v51:=Tryz.zeroValue249
 t146:=Tryz.underlying345
 a146:=Tryz.isAgg345
 z146:=Tryz.sizeOf345
 v146:=Tryz.zeroValue345
 g1:=by kernel_rfl
 i3:=by kernel_rfl
 i4:=by kernel_rfl
 i5:=by kernel_rfl
 i9:=by kernel_rfl
 i46:=by kernel_rfl
 i51:=by kernel_rfl
 i146:=by kernel_rfl
 m1:=by kernel_rfl
 s1_3:=fun w h=>Go.Proofs.cell_of_shapedOpen_int (zero:=#[.int .i64 0]) (t:=3) h (of_decide_eq_true (by kernel_rfl)) (by kernel_rfl) rfl (by kernel_rfl) (by kernel_rfl) Tryz.underlying3 }
end Go.Proofs
namespace Go.Proofs.YtbfdcmodflnkfaaGreatDoor
section
open Go.RowKit Go.ChangeMaps Go.Maps
structure RV where
 pod:ByteArray
 cont:ByteArray
 cpus:Int
 da:Option Addr
 dn:Nat
 dc:Nat
def RV.val (x:RV):Value:=.agg #[.string x.pod,.string x.cont,.int .u64 x.cpus,.slice x.da x.dn x.dc]
def RV.cells (x:RV):List Value:=[.string x.pod,.string x.cont,.int .u64 x.cpus,.slice x.da x.dn x.dc]
theorem RV.val_inj {x y:RV} (h:x.val=y.val):x=y:=by
 cases x;cases y
 simp [RV.val] at h
 simp [h]
def rvElem:Value→Option (DataW Value × List MemPlace)
 | .agg ⟨[.string p,.string c,.int .u64 n,.slice a m k]⟩=>some (.held (.agg #[.string p,.string c,.int .u64 n,.slice a m k]),[])
 | _=>none
theorem rvElem_mk (x:RV):rvElem x.val=some (.held x.val,[]):=rfl
theorem rvElem_inv {v:Value} {y:DataW Value × List MemPlace} (h:rvElem v=some y):∃ x:RV,v=x.val∧y=(.held x.val,[]):=by
 unfold rvElem at h
 split at h
 ·rename_i p c n a m k
  cases h
  exact ⟨⟨p,c,n,a,m,k⟩,rfl,rfl⟩
 ·cases h
def nameV (a b:ByteArray):Value:=.agg #[.string a,.string b]
def nameL (a b:ByteArray):Lit:=.string (keyBytes [.string a.data.toList,.string b.data.toList])
theorem laidOutR:laidOutB Tryz.prog=true:=by kernel_rfl
theorem rowN:(212:TypeId)<Tryz.prog.types.size:=of_decide_eq_true (by kernel_rfl)
theorem wideN:(match Tryz.prog.underlying 212 with|some (.array _ _)|some (.struct _)=>true|_=>false)=true:=by kernel_rfl
theorem keyN:Keyed Tryz.prog 212:=Keyed.of_law (deep_law_laid laidOutR (m:=2) (by omega) rowN (by kernel_rfl) wideN)
theorem keyTypeN:Tryz.prog.keyType 212=true:=by kernel_rfl
theorem cellsN:Tryz.prog.cellsOf 212=2:=by kernel_rfl
theorem cellsS:Tryz.prog.cellsOf 9=1:=by kernel_rfl
theorem posN {k m:Nat} (h:k<m):∃ n,m=n+1:=⟨m - 1,by omega⟩
theorem nameKey (a b:ByteArray) (ha:a.size≤maxLen) (hb:b.size≤maxLen):keyOf Tryz.prog 212 (nameV a b)=some (nameL a b):=by
 obtain ⟨n,hn⟩:=posN rowN
 have hS:∀ s:ByteArray,s.size≤maxLen→Tryz.prog.keyLits (n+1) 9 [.string s]=some [.string s.data.toList]:=fun s hs=>by
  unfold Program.keyLits
  rw [Tryz.underlying9]
  simp [hs]
 unfold keyOf
 simp only [Tryz.underlying212,nameV,keyTypeN,Value.formed,cellsN,Value.cells]
 rw [if_pos (by rfl),hn]
 unfold Program.keyLits
 rw [Tryz.underlying212]
 simp [cellsN,cellsS,hS a ha,hS b hb,nameL]
theorem nameL_inj {a b c d:ByteArray} (ha:a.size≤maxLen) (hb:b.size≤maxLen) (hc:c.size≤maxLen) (hd:d.size≤maxLen) (h:nameL a b=nameL c d):a=c∧b=d:=by
 have h1:=nameKey a b ha hb
 have h2:=nameKey c d hc hd
 rw [← h] at h2
 have:=keyN.inj h1 h2
 simp [nameV] at this
 exact this
end
section
namespace Qos
open Go.Sort
def usedOf (us:List Nd) (nm:ByteArray):Int:=((us.find? fun u=>decide (u.kind=nm)).map Nd.many).getD 0
structure Key where
 ab:Int
 pr:Int
 nm:ByteArray
instance:Inhabited Key:=⟨⟨0,0,ByteArray.empty⟩⟩
def turnOf (x:Int):Int:=if 0<x then 0 else 1
def ltS (a b:ByteArray):Bool:=Op.bytesLess a.toList b.toList
def cmpS (a b:ByteArray):Int:=if ltS a b=true then -1 else if ltS b a=true then 1 else 0
def orI (a b:Int):Int:=if a=0 then b else a
def keyCmp (a b:Key):Int:=orI (Lib.compareInt (turnOf a.ab) (turnOf b.ab)) (orI (Lib.compareInt a.pr b.pr) (orI (Lib.compareInt b.ab a.ab) (cmpS a.nm b.nm)))
def keyLt (a b:Key):Bool:=decide (keyCmp a b<0)
def key (us:List Nd) (p:Pd):Key:=⟨usedOf us p.nm - sumB p.cs p.cs.length,p.pr,p.nm⟩
theorem less_before:∀ a b:List UInt8,Op.bytesLess a b=bytesBefore a b
 | [],[]=>rfl
 | _ :: _,[]=>rfl
 | [],_ :: _=>rfl
 | a :: x,b :: y=>by rw [Op.bytesLess,bytesBefore,less_before x y]
def one (b:Bool):Int:=if b=true then 1 else 0
theorem one_in (b:Bool):one b=0∨one b=1:=by cases b <;> simp [one]
theorem ltS_irrefl (a:ByteArray):one (ltS a a)=0:=by simp [one,ltS,less_before,WideAt.bytes_irrefl]
theorem ltS_trans (a b c:ByteArray):one (ltS a b)=1→one (ltS b c)=1→one (ltS a c)=1:=by
 simp only [one,ltS,less_before]
 intro h1 h2
 have h1':bytesBefore a.toList b.toList=true:=by
  rcases Bool.eq_false_or_eq_true (bytesBefore a.toList b.toList) with h|h
  ·exact h
  ·rw [h] at h1;cases h1
 have h2':bytesBefore b.toList c.toList=true:=by
  rcases Bool.eq_false_or_eq_true (bytesBefore b.toList c.toList) with h|h
  ·exact h
  ·rw [h] at h2;cases h2
 rw [WideShapes.bytes_trans _ _ _ h1' h2'];rfl
theorem str_ext {a b:ByteArray} (h:a.toList=b.toList):a=b:=by
 rw [ByteArray.toList_eq,ByteArray.toList_eq] at h
 exact ByteArray.ext (Array.toList_inj.mp h)
theorem ltS_total (a b:ByteArray):one (ltS a b)=0→one (ltS b a)=0→a=b:=by
 simp only [one,ltS,less_before]
 intro h1 h2
 by_cases e:a.toList=b.toList
 ·exact str_ext e
 ·rcases WideAt.bytes_total _ _ e with h|h
  ·rw [h] at h1;cases h1
  ·rw [h] at h2;cases h2
theorem ltS_asymm (a b:ByteArray):one (ltS a b)=1→one (ltS b a)=0:=by
 intro h
 rcases one_in (ltS b a) with g|g
 ·exact g
 ·have:=ltS_trans a b a h g
  rw [ltS_irrefl] at this;cases this
theorem ltS_ntrans (a b c:ByteArray):one (ltS a b)=0→one (ltS b c)=0→one (ltS a c)=0:=by
 intro h1 h2
 rcases one_in (ltS a c) with g|g
 ·exact g
 rcases one_in (ltS b a) with k|k
 ·rw [ltS_total a b h1 k] at g;omega
 ·have:=ltS_trans b a c k g;omega
def tail (us:List Nd) (l:List Pd) (i:Nat):Int:=((l.drop i).map fun p=>usedOf us p.nm).sum
structure Least (us:List Nd) (l:List Pd) (most:Int) (i g:Nat):Prop where
 lo:i≤g
 hi:g≤l.length
 no:∀ j,i≤j→j<g→most<tail us l j
 yes:g<l.length→tail us l g≤most
theorem Least.start (us:List Nd) (l:List Pd) (most:Int):Least us l most l.length l.length:=⟨Nat.le_refl _,Nat.le_refl _,fun j h1 h2=>by omega,fun h=>by omega⟩
end Qos
end
section
namespace Qos
def kyAt (us:List Nd) (ps:List Pd) (j:Nat):Key:=key us (pd ps j)
structure Sel (us:List Nd) (ps:List Pd) (D:Nat→Bool) (out:List Nat):Prop where
 nodup:out.Nodup
 mem:∀ j,j∈out↔(j<ps.length∧D j=true)
 srt:out.Pairwise fun a b=>keyLt (kyAt us ps b) (kyAt us ps a)=false
 ahead:∀ a,a∈out→∀ j,j<ps.length→D j=false→keyLt (kyAt us ps j) (kyAt us ps a)=false
theorem Sel.start (us:List Nd) (ps:List Pd):Sel us ps (fun _=>false) []:=⟨List.nodup_nil,fun j=>by simp,List.Pairwise.nil,fun a h=>by simp at h⟩
end Qos
end
section
namespace Ost
def listTo (A k:Nat):List Nat:=(List.range k).filter (A.testBit ·)
theorem listTo_succ (A k:Nat):listTo A (k+1)=if A.testBit k then listTo A k++[k] else listTo A k:=by
 unfold listTo
 rw [List.range_succ,List.filter_append]
 by_cases h:A.testBit k <;> simp [h]
def runStart (A:Nat):Nat→Nat
 | 0=>0
 | n+1=>if A.testBit n then runStart A n else n+1
def spansTo (A:Nat):Nat→List (Nat × Nat)
 | 0=>[]
 | k+1=>if A.testBit k && !A.testBit (k+1) then spansTo A k++[(runStart A k,k)] else spansTo A k
def spanTxt (p:Nat × Nat):List UInt8:=if p.1=p.2 then Lib.decDigits p.1 else Lib.decDigits p.1++[45]++Lib.decDigits p.2
def joined (l:List (Nat × Nat)):List UInt8:=Lib.join (l.map spanTxt) [44]
theorem join_snoc (xs:List (List UInt8)) (x sep:List UInt8):Lib.join (xs++[x]) sep=if xs=[] then x else Lib.join xs sep++sep++x:=by
 unfold Lib.join
 induction xs with
 | nil=>simp [List.intercalate]
 | cons a r ih=>
  simp only [List.cons_append,reduceCtorEq,if_false]
  cases r with
  | nil=>simp [List.intercalate]
  | cons b t=>
   simp only [List.cons_append,reduceCtorEq,if_false] at ih
   have e1:sep.intercalate (a :: b :: (t++[x]))=a++sep++sep.intercalate (b :: (t++[x])):=by simp [List.intercalate,List.intersperse]
   have e2:sep.intercalate (a :: b :: t)=a++sep++sep.intercalate (b :: t):=by simp [List.intercalate,List.intersperse]
   rw [List.cons_append,e1,e2,ih]
   simp
theorem decDigits_ne (n:Nat):Lib.decDigits n≠[]:=by
 intro h
 have:=Lib.decDigits_length n
 rw [h] at this
 have:=Lib.nDigits_pos n
 simp at *
 omega
theorem spanTxt_ne (p:Nat × Nat):spanTxt p≠[]:=by
 unfold spanTxt
 split
 ·exact decDigits_ne _
 ·simp
theorem joined_nil (l:List (Nat × Nat)):joined l=[]↔l=[]:=by
 constructor
 ·intro h
  cases l with
  | nil=>rfl
  | cons a r=>
   exfalso
   unfold joined at h
   cases r with
   | nil=>simp [Lib.join,List.intercalate] at h;exact spanTxt_ne a h
   | cons b t=>simp [Lib.join,List.intercalate] at h
 ·rintro rfl;rfl
theorem joined_snoc (l:List (Nat × Nat)) (p:Nat × Nat):joined (l++[p])=if joined l=[] then spanTxt p else joined l++[44]++spanTxt p:=by
 unfold joined
 rw [List.map_append,List.map_cons,List.map_nil,join_snoc]
 by_cases h:l=[]
 ·subst h;simp [Lib.join,List.intercalate]
 ·rw [if_neg (by simpa using h),if_neg]
  intro e
  exact h ((joined_nil l).1 e)
end Ost
end
section
namespace Ost
structure N4 where
 a:Int
 b:Int
 c:Int
 d:Int
def N4.get (q:N4):Nat→Int
 | 0=>q.a
 | 1=>q.b
 | 2=>q.c
 | _=>q.d
def sumTo (q:N4) (m:Nat):Nat→Int
 | 0=>0
 | k+1=>if m.testBit k then sumTo q m k+q.get k else sumTo q m k
def sumOn (q:N4) (m:Nat):Int:=sumTo q m 4
theorem sumTo_yes {q:N4} {m k:Nat} (h:m.testBit k=true):sumTo q m (k+1)=sumTo q m k+q.get k:=by rw [sumTo,if_pos h]
theorem sumTo_no {q:N4} {m k:Nat} (h:m.testBit k=false):sumTo q m (k+1)=sumTo q m k:=by rw [sumTo,if_neg (by rw [h];simp)]
def Sm (q:N4):Prop:=∀ k,-1000000≤q.get k∧q.get k≤1000000
theorem sumTo_bound {q:N4} (h:Sm q) (m k:Nat):-1000000*(k:Int)≤sumTo q m k∧sumTo q m k≤1000000*(k:Int):=by
 induction k with
 | zero=>simp [sumTo]
 | succ k ih=>
  have:=h k
  rw [sumTo]
  split <;> omega
def pop8 (m:Nat):Nat:=(listTo m 8).length
theorem pop8_le (m:Nat):pop8 m≤8:=by
 unfold pop8 listTo
 exact Nat.le_trans (List.length_filter_le _ _) (by simp)
def isSub (nodes m:Nat):Bool:=decide (1≤m) && decide (m &&& nodes=m)
def masksTo (nodes k:Nat):List Nat:=(List.range k).filter (isSub nodes)
theorem masksTo_yes {nodes k:Nat} (h:isSub nodes k=true):masksTo nodes (k+1)=masksTo nodes k++[k]:=by
 unfold masksTo
 rw [List.range_succ,List.filter_append];simp [h]
theorem masksTo_no {nodes k:Nat} (h:isSub nodes k=false):masksTo nodes (k+1)=masksTo nodes k:=by
 unfold masksTo
 rw [List.range_succ,List.filter_append];simp [h]
theorem masksTo_le (nodes k:Nat):(masksTo nodes k).length≤k:=by
 unfold masksTo
 exact Nat.le_trans (List.length_filter_le _ _) (by simp)
theorem masksTo_mem {nodes k m:Nat} (h:m∈masksTo nodes k):m<k∧isSub nodes m=true:=by
 unfold masksTo at h
 rw [List.mem_filter,List.mem_range] at h
 exact h
def fewTo (q:N4) (many:Int) (l:List Nat):Nat→Nat
 | 0=>4
 | k+1=>if decide (many≤sumOn q (l.getD k 0)) then min (fewTo q many l k) (pop8 (l.getD k 0)) else fewTo q many l k
theorem fewTo_le (q:N4) (many:Int) (l:List Nat) (k:Nat):fewTo q many l k≤4:=by
 induction k with
 | zero=>exact Nat.le_refl _
 | succ k ih=>rw [fewTo];split <;> omega
def goodH (all:N4) (many:Int) (few m:Nat):Bool:=decide (many≤sumOn all m) && decide (pop8 m=few)
def hintsTo (free all:N4) (many:Int) (few:Nat) (l:List Nat):Nat→List (Nat × Bool)
 | 0=>[]
 | k+1=>if decide (many≤sumOn free (l.getD k 0)) then hintsTo free all many few l k++[(l.getD k 0,goodH all many few (l.getD k 0))] else hintsTo free all many few l k
theorem hintsTo_le (free all:N4) (many:Int) (few:Nat) (l:List Nat) (k:Nat):(hintsTo free all many few l k).length≤k:=by
 induction k with
 | zero=>exact Nat.le_refl _
 | succ k ih=>
  rw [hintsTo]
  split
  ·rw [List.length_append];simp only [List.length_cons,List.length_nil];omega
  ·omega
def few (all:N4) (nodes:Nat) (many:Int):Nat:=fewTo all many (masksTo nodes 16) (masksTo nodes 16).length
def hints (free all:N4) (nodes:Nat) (many:Int):List (Nat × Bool):=hintsTo free all many (few all nodes many) (masksTo nodes 16) (masksTo nodes 16).length
end Ost
end
end Go.Proofs.YtbfdcmodflnkfaaGreatDoor
