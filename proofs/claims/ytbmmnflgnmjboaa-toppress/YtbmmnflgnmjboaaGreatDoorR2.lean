import Derived.Test.YtbmmnflgnmjboaaGreatDoorProg
import Derived.Lib.Join
import Derived.Shelf.Strings.Builder1
import Derived.Shelf.Strings.Builder2
import Derived.Shelf.Strings.OnBuilder
import Derived.Shelf.Small.Bits
import Derived.Shelf.Small.Strs
import Derived.Shelf.Small.Wraps
import Derived.Shelf.Strings.BuilderF
import Derived.Shelf.Strings.BuilderK
import Derived.Shelf.Strconv.Itoa0
import Derived.Shelf.Strconv.Itoa1
import Derived.Shelf.LaysM
import Derived.Shelf.Strconv.Itoa2
import Derived.Shelf.Strconv.Itoa3
import Derived.Shelf.Strings.Search1
import Derived.Shelf.Strings.Search2
import Derived.Shelf.Strings.Search3
import Derived.Shelf.Strings.Cut
import Derived.Shelf.Strings.Count
import Derived.Shelf.Strings.Shaped
import Derived.Shelf.Sort.Plain
import Derived.Shelf.Strings.LastIndex
import Derived.Shelf.Strings.LastIndexAll
import Derived.Shelf.Strings.Prefix
import Derived.Shelf.Strings.Split
import Derived.Shelf.Strings.SplitShaped
import Derived.Shelf.Unicode.Decode
import Derived.Shelf.Strings.RuneCount
import Derived.Shelf.Strings.Explode
import Derived.Shelf.Slices.Equal
import Derived.Ground.Names2Prog
import Derived.Shelf.Slices.Clone
import Derived.Shelf.Slices.In.SortNone
import Derived.Shelf.Slices.Empties2
import Derived.Ground.SlgnProg
import Derived.Shelf.SlicesE.Clone
import Derived.Ground.SlsfProg
import Derived.Shelf.SlSortCmp.Insertion
import Derived.Shelf.SlSortCmp.SiftDown1
import Derived.Shelf.SlSortCmp.HeapSort1
import Derived.Shelf.SlSortCmp.Insertion1
import Derived.Shelf.SlSortCmp.Median1
import Derived.Shelf.SlSortCmp.Pivot1
import Derived.Shelf.SlSortCmp.ReverseRange1
import Derived.Shelf.SlSortCmp.PartialInsertion1
import Derived.Shelf.SlSortCmp.PartitionEqual1
import Derived.Shelf.SlSortCmp.Partition1
import Derived.Shelf.SlSortCmp.Pdq1
import Derived.Shelf.SlSortCmp.Whole1
import Derived.Shelf.SlSortCmp.NoneTotal
import Derived.Ground.PaProg
import Derived.Shelf.Path.Small
import Derived.Deep.QuietTactic
import Derived.BigQuiet
import Derived.RangeFuncNested
import Derived.RangeFuncBound
import Derived.RangeFuncCalls
import Derived.RangeFuncLeaves
import Derived.RangeFuncBox
import Derived.RangeFuncWrites
import Derived.Shelf.Abstract
import Derived.Shelf.RegionOpen
import Derived.OwnWalkIn
import Derived.TacticsInMore
import Derived.LoopNIn
import Derived.LoopIn
import Derived.Maps.OwnIn
import Derived.OrdersHeld
import Derived.OrdersIn
import Derived.Lib.CountLaws
import Derived.Lib.Split
import Derived.Laws.Bits128
import Derived.Deep.RegionWith
import Derived.Lib.ItoaLen
import Derived.Test.YtbmmnflgnmjboaaGreatDoorRows
import Derived.Test.YtbmmnflgnmjboaaGreatDoorTk3
import Derived.WalkKit
import Derived.WalkSpells
import Derived.WalkLawsBesides
import Derived.Laws.Bits64b
import Derived.Lib.Strings
import Derived.Lib.Index
import Derived.Lib.Small
import Derived.Lib.CutLaws
import Derived.Lib.ItoaNum
set_option maxRecDepth 100000
set_option maxHeartbeats 16000000
open Go.Proofs.Tryz
namespace Go.Proofs.YtbmmnflgnmjboaaGreatDoor
section
namespace Ost

def je (b:UInt8):Bool:=decide (48<=b.toNat/\b.toNat<=57)
def step (n:Int) (b:UInt8):Int:=n*10+((b.toNat:Int) - 48)
def val (l:List UInt8):Int:=l.foldl step 0
def Af (l:List UInt8):Bool:=l.all je
def Ag:Int:=9223372036854775807
def iA (l:List UInt8):Bool:=!l.isEmpty && !(decide (1<l.length) && (l.headD 0 == 48)) && Af l
def good (m:Int) (l:List UInt8):Bool:=iA l && decide ((l.length:Int)<=m) && decide (val l<=Ag)

theorem sQ (b:UInt8):je b=true↔48<=b.toNat/\b.toNat<=57:=by simp [je]
theorem Ah (b:UInt8):je b=false↔¬ (48<=b.toNat/\b.toNat<=57):=by simp [je]
theorem sR (s:ByteArray):s.toList.isEmpty=decide (s.size=0):=by
 rw [Qs]
 rcases s with ⟨⟨l⟩⟩
 cases l <;> simp [ByteArray.size]
end Ost
end
section
open RowKit
theorem Ai (b:UInt8) (w:World) (h:Ost.je b=true) :
  Calls prog 84 #[.int .u8 b.toNat] w λe w'=>e=.returned (.tuple #[.int .i64 (b.toNat - 48),.bool true])/\w'=w:=by
 have h1:=((Ost.sQ b).1 h).1;have h2:=((Ost.sQ b).1 h).2;clear h
 go_enter func84,ntmps84
 go_wp2
 go_ret2;exact ⟨rfl,rfl⟩
theorem Aj (b:UInt8) (w:World) (h:Ost.je b=false) :
  Calls prog 84 #[.int .u8 b.toNat] w λe w'=>e=.returned (.tuple #[.int .i64 0,.bool false])/\w'=w:=by
 have h1:=(Ost.Ah b).1 h;clear h
 by_cases h2:48<=b.toNat
 ·have h3:57<b.toNat:=by omega
  clear h1
  go_enter func84,ntmps84
  go_wp2
  go_ret2;exact ⟨rfl,rfl⟩
 ·clear h1
  go_enter func84,ntmps84
  go_wp2
  go_ret2;exact ⟨rfl,rfl⟩
end
section
namespace Sv
def kI (h:Nat) (b:UInt8):Nat:=(h ^^^ b.toNat)*16777619 % 4294967296
def fnv (l:List UInt8):Nat:=l.foldl kI 2166136261
theorem sS (l:List UInt8) (b:UInt8):fnv (l++[b])=kI (fnv l) b:=by
 unfold fnv;rw [List.foldl_append,List.foldl_cons,List.foldl_nil]
theorem pz (l:List UInt8):fnv l<4294967296:=by
 rcases List.eq_nil_or_concat l with rfl|⟨l,b,rfl⟩
 ·unfold fnv;rw [List.foldl_nil];omega
 ·rw [List.concat_eq_append,sS];unfold kI;exact Nat.mod_lt _ (by omega)
theorem Ak {l:List UInt8} {k:Nat} (h:k<l.length):fnv (l.take (k+1))=kI (fnv (l.take k)) l[k]:=by
 rw [<- sS,List.take_add_one,Qf h,Option.toList_some]
theorem Al {a b:Nat} (ha:a<4294967296) (hb:b<4294967296):a ^^^ b<4294967296:=Nat.xor_lt_two_pow (n:=32) ha hb
theorem Am {a b:Nat} (ha:a<4294967296) (hb:b<4294967296):bits .xor .u32 (a:Int) (b:Int)=((a ^^^ b:Nat):Int):=by
 have h1:(BitVec.ofInt 32 (a:Int)).toNat=a:=by rw [BitVec.toNat_ofInt];omega
 have h2:(BitVec.ofInt 32 (b:Int)).toNat=b:=by rw [BitVec.toNat_ofInt];omega
 show IntKind.u32.wrap ((BitVec.ofInt 32 (a:Int) ^^^ BitVec.ofInt 32 (b:Int)).toNat:Int)=_
 rw [BitVec.toNat_xor,h1,h2]
 have:=Al ha hb
 rw [IntKind.wrap_u32];omega
theorem An (h:Nat) (b:UInt8):IntKind.u32.wrap (((h ^^^ b.toNat:Nat):Int)*16777619)=(kI h b:Nat):=by
 unfold kI;rw [IntKind.wrap_u32];omega
end Sv
end
section
namespace Ost

def dp (c:UInt8):List UInt8->List UInt8 × List UInt8 × Bool
 | []=>([],[],false)
 | b :: l=>if b=c then ([],l,true) else (b :: (dp c l).1,(dp c l).2.1,(dp c l).2.2)
def bound:Option Int->Int × Int
 | none=>(0,4)
 | some v=>if 1000000<v then (0,1) else (v,0)
end Ost
end
section
namespace Qos
theorem sT (n:Int):bits .and .i64 n 1073741823=n % 1073741824:=by
 have h1:(BitVec.ofInt 64 n).toNat=(n % 18446744073709551616).toNat:=by rw [BitVec.toNat_ofInt];rfl
 have h2:(BitVec.ofInt 64 (1073741823:Int)).toNat=2 ^ 30 - 1:=by decide
 show IntKind.i64.wrap ((BitVec.ofInt 64 n &&& BitVec.ofInt 64 (1073741823:Int)).toNat:Int)=_
 rw [BitVec.toNat_and,h1,h2,Nat.and_two_pow_sub_one_eq_mod,IntKind.wrap_i64];omega
def Tot (h l v:Int):Prop:=0<=l/\l<1073741824/\h*1073741824+l=v
theorem Tot.zero:Tot 0 0 0:=⟨by omega,by omega,by omega⟩
theorem Tot.le {h l v h' l' v':Int} (t:Tot h l v) (t':Tot h' l' v'):(h<h'\/(h=h'/\l<=l'))↔v<=v':=by
 obtain ⟨h1,h2,h3⟩:=t;obtain ⟨g1,g2,g3⟩:=t';omega
end Qos
end
section
namespace Ost
end Ost
end
section
namespace Ost
def lN (n:Nat):List UInt8:=Lib.decDigits n
theorem sU (n:Nat) (h:n<10):lN n=[UInt8.ofNat (48+n)]:=Lib.decDigits_one h
theorem Ao (n:Nat) (h:¬ n<10):lN n=lN (n / 10)++[UInt8.ofNat (48+n % 10)]:=by
 unfold lN;rw [Lib.decDigits,dif_neg h]
theorem Ap (k n:Nat) (h:n<10 ^ (k+1)):(lN n).length<=k+1:=by
 induction k generalizing n with
 | zero=>rw [sU n (by simpa using h)];simp
 | succ k ih=>
  by_cases hs:n<10
  ·rw [sU n hs];simp
  ·rw [Ao n hs,Q2]
   have:=ih (n / 10) (by rw [Nat.pow_succ] at h;omega)
   simp;omega
end Ost
end
section
namespace Ost
def aI (A k:Nat):List Nat:=(List.range k).filter (A.testBit ·)
theorem jS (A k:Nat):aI A (k+1)=if A.testBit k then aI A k++[k] else aI A k:=by
 unfold aI;rw [List.range_succ,List.filter_append]
 by_cases h:A.testBit k <;> simp [h]
def fL (A:Nat):Nat->Nat
 | 0=>0
 | n+1=>if A.testBit n then fL A n else n+1
def ex (A:Nat):Nat->List (Nat × Nat)
 | 0=>[]
 | k+1=>if A.testBit k && !A.testBit (k+1) then ex A k++[(fL A k,k)] else ex A k
def cZ (p:Nat × Nat):List UInt8:=if p.1=p.2 then Lib.decDigits p.1 else Lib.decDigits p.1++[45]++Lib.decDigits p.2
def joined (l:List (Nat × Nat)):List UInt8:=Lib.join (l.map cZ) [44]
theorem pA (xs:List (List UInt8)) (x sep:List UInt8):Lib.join (xs++[x]) sep=if xs=[] then x else Lib.join xs sep++sep++x:=by
 unfold Lib.join
 induction xs with
 | nil=>simp [List.intercalate]
 | cons a r ih=>
  simp only [List.cons_append,reduceCtorEq,if_false];cases r with
  | nil=>simp [List.intercalate]
  | cons b t=>
   simp only [List.cons_append,reduceCtorEq,if_false] at ih;have e1:sep.intercalate (a :: b :: (t++[x]))=a++sep++sep.intercalate (b :: (t++[x])):=by simp [List.intercalate,List.intersperse]
   have e2:sep.intercalate (a :: b :: t)=a++sep++sep.intercalate (b :: t):=by simp [List.intercalate,List.intersperse]
   rw [List.cons_append,e1,e2,ih]
   simp
theorem Aq (n:Nat):Lib.decDigits n≠[]:=by
 intro h
 have:=Lib.decDigits_length n
 rw [h] at this
 have:=Lib.nDigits_pos n
 simp at *
 omega
theorem Ar (p:Nat × Nat):cZ p≠[]:=by
 unfold cZ
 split
 ·exact Aq _
 ·simp
theorem As (l:List (Nat × Nat)):joined l=[]↔l=[]:=by
 constructor
 ·intro h;cases l with
  | nil=>rfl
  | cons a r=>
   exfalso
   unfold joined at h;cases r with
   | nil=>simp [Lib.join,List.intercalate] at h;exact Ar a h
   | cons b t=>simp [Lib.join,List.intercalate] at h
 ·rintro rfl;rfl
theorem At (l:List (Nat × Nat)) (p:Nat × Nat):joined (l++[p])=if joined l=[] then cZ p else joined l++[44]++cZ p:=by
 unfold joined;rw [Qj,Qq,List.map_nil,pA]
 by_cases h:l=[]
 ·subst h;simp [Lib.join,List.intercalate]
 ·rw [if_neg (by simpa using h),if_neg];intro e;exact h ((As l).1 e)
end Ost
end
section
namespace Ost
structure Cpu where
 core:Int
 sock:Int
 node:Int
deriving DecidableEq
def ad:Cpu:=⟨0,0,0⟩
def br (p:Cpu->Bool) (l:List Cpu):Nat->Nat
 | 0=>0
 | k+1=>if p (l.getD k ad) then br p l k ||| 2 ^ k else br p l k
theorem jT {p:Cpu->Bool} {l:List Cpu} {k:Nat} (h:p (l.getD k ad)=true):br p l (k+1)=br p l k ||| 2 ^ k:=by rw [br,if_pos h]
theorem jU {p:Cpu->Bool} {l:List Cpu} {k:Nat} (h:p (l.getD k ad)=false):br p l (k+1)=br p l k:=by rw [br,if_neg (by rw [h];simp)]
def ae (p:Cpu->Bool) (l:List Cpu):Nat:=br p l l.length
theorem sW (p:Cpu->Bool) (l:List Cpu) (k i:Nat):(br p l k).testBit i=(decide (i<k) && p (l.getD i ad)):=by
 induction k with
 | zero=>simp [br]
 | succ k ih=>
  by_cases h:p (l.getD k ad)=true
  ·rw [jT h,Nat.testBit_or,ih,Nat.testBit_two_pow]
   by_cases hi:i=k
   ·subst hi;rw [h];simp
   ·by_cases h2:i<k
    ·simp [h2,show i<k+1 by omega,show ¬ k=i by omega]
    ·simp [h2,show ¬ i<k+1 by omega,show ¬ k=i by omega]
  ·have h':p (l.getD k ad)=false:=by simpa using h
   rw [jU h',ih]
   by_cases hi:i=k
   ·subst hi;rw [h'];simp
   ·by_cases h2:i<k
    ·simp [h2,show i<k+1 by omega]
    ·simp [h2,show ¬ i<k+1 by omega]
theorem eW (p:Cpu->Bool) (l:List Cpu) (k:Nat) (hk:k<=64):br p l k<18446744073709551616:=by
 apply Nat.lt_pow_two_of_testBit (n:=64);intro i hi;rw [sW]
 simp [show ¬ i<k by omega]
theorem pB (p:Cpu->Bool) (l:List Cpu) (i:Nat):(ae p l).testBit i=(decide (i<l.length) && p (l.getD i ad)):=sW p l _ i
end Ost
end
section
namespace Ost
theorem Au (A k:Nat):2*(ex A k).length<=k+1/\(A.testBit k=true->2*(ex A k).length<=k):=by
 induction k with
 | zero=>simp [ex]
 | succ k ih=>
  unfold ex
  by_cases h:A.testBit k=true
  ·by_cases h1:A.testBit (k+1)=true
   ·simp [h,h1];omega
   ·have Ha:A.testBit (k+1)=false:=by simpa using h1
    simp [h,Ha]
    have:=ih.2 h
    omega
  ·have h':A.testBit k=false:=by simpa using h
   simp [h'];omega
theorem sX (n:Nat) (h:n<100):(Lib.decDigits n).length<=2:=Ap 1 n (by omega)
theorem Av (f l:Nat) (hf:f<64) (hl:l<64):(cZ (f,l)).length<=5:=by
 have h1:=sX f (by omega);have h2:=sX l (by omega);unfold cZ
 split
 ·exact Q5 h1 (by omega)
 ·simp;omega
theorem Aw (A k:Nat):fL A k<=k:=by
 induction k with
 | zero=>exact lR
 | succ k ih=>unfold fL;split <;> omega
theorem Ax (A k:Nat) (p:Nat × Nat) (h:p∈ex A k):p.1<=p.2/\p.2<k:=by
 induction k with
 | zero=>simp [ex] at h
 | succ k ih=>
  unfold ex at h
  split at h
  ·rcases Qi.1 h with h|h
   ·have:=ih h;omega
   ·simp at h;subst h;exact ⟨Aw A k,by omega⟩
  ·have:=ih h;omega
theorem Ay (l:List (Nat × Nat)) (h:∀ p∈l,p.1<=p.2/\p.2<64):(joined l).length<=6*l.length:=by
 have key:∀ r:List (Nat × Nat),(∀ p∈r.reverse,p.1<=p.2/\p.2<64)->(joined r.reverse).length<=6*r.reverse.length:=by
  intro r
  induction r with
  | nil=>intro _;simp [joined,Lib.join,List.intercalate]
  | cons p r ih=>
   intro hr;rw [List.reverse_cons] at hr ⊢;have h1:=ih λq hq=>hr q (Qi.2 (.inl hq));have h2:=hr p (Qi.2 (.inr (by simp)));have h3:(cZ p).length<=5:=Av p.1 p.2 (by omega) (by omega);rw [At,Q2]
   split
   ·simp only [Qg,List.length_nil];omega
   ·rw [Q2,Q2];simp only [Qg,List.length_nil];omega
 have:=key l.reverse (by simpa using h)
 simpa using this
def txt (A:Nat):List UInt8:=joined (ex A 64)
theorem sY (A:Nat):(txt A).length<=300:=by
 have h1:=Ay (ex A 64) λp hp=>Ax A 64 p hp;have h2:=(Au A 64).1;unfold txt;omega
def dL (c:UInt8):List UInt8->List (List UInt8)
 | []=>[[]]
 | b :: r=>if b=c then [] :: dL c r else
  match dL c r with
  | []=>[[b]]
  | x :: xs=>(b :: x) :: xs
def Az (t:List UInt8):Option (Int × Int):=
 if (dp 45 t).2.2 then
  (if (good 19 (dp 45 t).1 && good 19 (dp 45 t).2.1 && decide (val (dp 45 t).1<=val (dp 45 t).2.1)) then some (val (dp 45 t).1,val (dp 45 t).2.1) else none)
 else if good 19 (dp 45 t).1 then some (val (dp 45 t).1,val (dp 45 t).1) else none
def rb (f:Nat):Nat->Nat
 | 0=>0
 | m+1=>rb f m ||| 2 ^ (f+m)
def pieces (acc:Nat):List (List UInt8)->Nat × Int
 | []=>(acc,0)
 | t :: r=>match Az t with
  | none=>(0,4)
  | some (f,l)=>if 63<l then (0,1) else pieces (acc ||| rb f.toNat (l - f+1).toNat) r
def lO (l:List UInt8):Nat × Int:=if 300<l.length then (0,2) else if l=[] then (0,0) else pieces 0 (dL 44 l)
end Ost
end
end Go.Proofs.YtbmmnflgnmjboaaGreatDoor
namespace Go.Proofs
open Go.Shelf
def lays169_ren:Go.Shelf.Ren:=⟨fun|169=>137|n=>n,fun|70=>234|9=>9|0=>0|72=>237|37=>235|127=>285|3=>3|5=>5|n=>n,fun|n=>n⟩
theorem lays169:Go.Proofs.Lays.n169 prog lays169_ren:={
 mixed:=by kernel_rfl
 f169:=func137.trans (congrArg some (by kernel_rfl))
 t0:=underlying0
 a0:=isAgg0
 z0:=sizeOf0
 v0:=zeroValue0
 t3:=underlying3
 a3:=isAgg3
 z3:=sizeOf3
 v3:=zeroValue3
 t9:=underlying9
 a9:=isAgg9
 z9:=sizeOf9
 v9:=zeroValue9
 t37:=underlying235
 a37:=isAgg235
 z37:=sizeOf235
 v37:=zeroValue235
 t70:=underlying234
 a70:=isAgg234
 z70:=sizeOf234
 v70:=zeroValue234
 t72:=underlying237
 a72:=isAgg237
 z72:=sizeOf237
 v72:=zeroValue237
 t127:=underlying285
 a127:=isAgg285
 z127:=sizeOf285
 v127:=zeroValue285 }
theorem Tryz.Builder_Extra_169:Builder.Extra prog lays169_ren:={
 sizeBuilder:=by kernel_rfl
 liesBuilder:=by kernel_rfl
 t5:=underlying5
 a5:=isAgg5
 z5:=sizeOf5
 v5:=zeroValue5
 infoByte:=by kernel_rfl
 cellsByte:=by kernel_rfl
 sizeByte:=by kernel_rfl
 neB5:=by decide }
def lays156_ren:Go.Shelf.Ren:=⟨fun|156=>220|165=>257|166=>133|169=>137|240=>171|241=>282|276=>219|277=>306|n=>n,fun|31=>78|9=>9|3=>3|4=>4|0=>0|20=>20|72=>237|76=>238|70=>234|37=>235|75=>40|127=>285|164=>320|5=>5|80=>243|n=>n,fun|n=>n⟩
theorem lays156:Go.Proofs.Lays.n156 prog lays156_ren:={
 mixed:=by kernel_rfl
 f156:=func220.trans (congrArg some (by kernel_rfl))
 f165:=func257.trans (congrArg some (by kernel_rfl))
 f166:=func133.trans (congrArg some (by kernel_rfl))
 f169:=func137.trans (congrArg some (by kernel_rfl))
 f240:=func171.trans (congrArg some (by kernel_rfl))
 f241:=func282.trans (congrArg some (by kernel_rfl))
 f276:=func219.trans (congrArg some (by kernel_rfl))
 f277:=func306.trans (congrArg some (by kernel_rfl))
 t0:=underlying0
 a0:=isAgg0
 z0:=sizeOf0
 v0:=zeroValue0
 t3:=underlying3
 a3:=isAgg3
 z3:=sizeOf3
 v3:=zeroValue3
 t4:=underlying4
 a4:=isAgg4
 z4:=sizeOf4
 v4:=zeroValue4
 t9:=underlying9
 a9:=isAgg9
 z9:=sizeOf9
 v9:=zeroValue9
 t20:=underlying20
 a20:=isAgg20
 z20:=sizeOf20
 v20:=zeroValue20
 t31:=underlying78
 a31:=isAgg78
 z31:=sizeOf78
 v31:=zeroValue78
 t37:=underlying235
 a37:=isAgg235
 z37:=sizeOf235
 v37:=zeroValue235
 t70:=underlying234
 a70:=isAgg234
 z70:=sizeOf234
 v70:=zeroValue234
 t72:=underlying237
 a72:=isAgg237
 z72:=sizeOf237
 v72:=zeroValue237
 t75:=underlying40
 a75:=isAgg40
 z75:=sizeOf40
 v75:=zeroValue40
 t76:=underlying238
 a76:=isAgg238
 z76:=sizeOf238
 v76:=zeroValue238
 t127:=underlying285
 a127:=isAgg285
 z127:=sizeOf285
 v127:=zeroValue285
 t164:=underlying320
 a164:=isAgg320
 z164:=sizeOf320
 v164:=zeroValue320 }
theorem Tryz.Builder_Extra_156:Builder.Extra prog lays156_ren:={
 sizeBuilder:=by kernel_rfl
 liesBuilder:=by kernel_rfl
 t5:=underlying5
 a5:=isAgg5
 z5:=sizeOf5
 v5:=zeroValue5
 infoByte:=by kernel_rfl
 cellsByte:=by kernel_rfl
 sizeByte:=by kernel_rfl
 neB5:=by decide }
open RowKit in
theorem Tryz.strings_Join_none (a:Option Addr) (c:Nat) (sep:ByteArray) (w:World) :
  Calls prog 220 #[.slice a 0 c,.string sep] w λe w'=>e=.returned (.string ⟨#[]⟩)/\w'=w:=Any.strings_Join_none lays156 Tryz.Builder_Extra_156 a c sep w
open RowKit in
theorem Tryz.strings_Join (bk o c:Nat) (xs:List ByteArray) (sep:ByteArray) (w:World) (hcells:∀ (j:Nat) x,xs[j]?=some x->w.cell? ⟨bk,o+j,none⟩=some (.string x)) (hbk:bk<w.heap.size) (hN:xs.length<=140737488355328) (hcap:xs.length<=c) (hlen:(Lib.join (xs.map (·.data.toList)) sep.data.toList).length<=140737488355328) :
  Calls prog 220 #[.slice (some ⟨bk,o,none⟩) xs.length c,.string sep] w λe w'=>e=.returned (.string ⟨(Lib.join (xs.map (·.data.toList)) sep.data.toList).toArray⟩)/\Below w.heap.size w w':=Any.strings_Join lays156 Tryz.Builder_Extra_156 bk o c xs sep w hcells hbk hN hcap hlen
open RowKit in
theorem Tryz.Builder_String_any_k (B b:Nat) (l:List UInt8) (w:World) (h:Lib.IsBuilderF 237 5 B b (Lib.byteCells l) w) (hBw:B<=w.heap.size) :
  Calls prog 137 #[.pointer (some ⟨b,0,none⟩)] w λe w'=>e=.returned (.string ⟨l.toArray⟩)/\(Lib.IsBuilderF 237 5 B b (Lib.byteCells l) w'/\Below B w w'/\Lib.OthersKept 5 (some b) w w'):=Any.Builder_String_any_k lays169 Tryz.Builder_Extra_169 B b l w h hBw
def lays283_ren:Go.Shelf.Ren:=⟨fun|283=>259|n=>n,fun|3=>3|9=>9|4=>4|n=>n,fun|n=>n⟩
theorem lays283:Go.Proofs.Lays.n283 prog lays283_ren:={
 mixed:=by kernel_rfl
 f283:=func259.trans (congrArg some (by kernel_rfl))
 t3:=underlying3
 a3:=isAgg3
 z3:=sizeOf3
 v3:=zeroValue3
 t4:=underlying4
 a4:=isAgg4
 z4:=sizeOf4
 v4:=zeroValue4
 t9:=underlying9
 a9:=isAgg9
 z9:=sizeOf9
 v9:=zeroValue9 }
open Go.Lib in
theorem Tryz.internal_strconv_small (i:Nat) (h:i<100) (w:World) :
  Calls prog 259 #[.int .i64 i] w λe w'=>e=.returned (.string ⟨(Lib.decDigits i).toArray⟩)/\w'=w:=Any.internal_strconv_small lays283 i h w
def laysM284_ren:Go.Shelf.Ren:=⟨fun|284=>260|129=>196|317=>283|318=>284|n=>n,fun|53=>23|3=>3|212=>383|0=>0|4=>4|46=>174|5=>5|9=>9|n=>n,fun|17=>0|n=>n⟩
theorem laysM284:Go.Proofs.LaysM.n284 prog laysM284_ren:={
 mixed:=by kernel_rfl
 f129:=func196.trans (congrArg some (by kernel_rfl))
 f284:=func260.trans (congrArg some (by kernel_rfl))
 f317:=func283.trans (congrArg some (by kernel_rfl))
 f318:=func284.trans (congrArg some (by kernel_rfl))
 t0:=underlying0
 a0:=isAgg0
 z0:=sizeOf0
 v0:=zeroValue0
 t3:=underlying3
 a3:=isAgg3
 z3:=sizeOf3
 v3:=zeroValue3
 t4:=underlying4
 a4:=isAgg4
 z4:=sizeOf4
 v4:=zeroValue4
 t5:=underlying5
 a5:=isAgg5
 z5:=sizeOf5
 v5:=zeroValue5
 t9:=underlying9
 a9:=isAgg9
 z9:=sizeOf9
 v9:=zeroValue9
 t46:=underlying174
 a46:=isAgg174
 z46:=sizeOf174
 v46:=zeroValue174
 t53:=underlying23
 a53:=isAgg23
 z53:=sizeOf23
 v53:=zeroValue23
 t212:=underlying383
 a212:=isAgg383
 z212:=sizeOf383
 v212:=zeroValue383
 g17:=by kernel_rfl
 i0:=by kernel_rfl
 i3:=by kernel_rfl
 i4:=by kernel_rfl
 i5:=by kernel_rfl
 i9:=by kernel_rfl
 i46:=by kernel_rfl
 i53:=by kernel_rfl
 i212:=by kernel_rfl
 m17:=by kernel_rfl }
open Go.Lib in
theorem Tryz.internal_strconv_numDigits (u : Nat) (h1 : 1 ≤ u) (h2 : u < 18446744073709551616) (w : World) (htab : Lib.TabIs prog w "internal/strconv.uint64pow10" .u64 Lib.pow10Tab) :
  Calls prog 260 #[.int .u64 u] w λe w'=>e=.returned (.int .i64 (Lib.nDigits u))/\w'=w:=Any.internal_strconv_numDigits laysM284 u h1 h2 w htab
def lays285_ren:Go.Shelf.Ren:=⟨fun|285=>261|n=>n,fun|37=>235|53=>23|3=>3|4=>4|51=>287|9=>9|5=>5|0=>0|n=>n,fun|n=>n⟩
theorem lays285:Go.Proofs.Lays.n285 prog lays285_ren:={
 mixed:=by kernel_rfl
 f285:=func261.trans (congrArg some (by kernel_rfl))
 t0:=underlying0
 a0:=isAgg0
 z0:=sizeOf0
 v0:=zeroValue0
 t3:=underlying3
 a3:=isAgg3
 z3:=sizeOf3
 v3:=zeroValue3
 t4:=underlying4
 a4:=isAgg4
 z4:=sizeOf4
 v4:=zeroValue4
 t5:=underlying5
 a5:=isAgg5
 z5:=sizeOf5
 v5:=zeroValue5
 t9:=underlying9
 a9:=isAgg9
 z9:=sizeOf9
 v9:=zeroValue9
 t37:=underlying235
 a37:=isAgg235
 z37:=sizeOf235
 v37:=zeroValue235
 t51:=underlying287
 a51:=isAgg287
 z51:=sizeOf287
 v51:=zeroValue287
 t53:=underlying23
 a53:=isAgg23
 z53:=sizeOf23
 v53:=zeroValue23 }
open RowKit Go.Sort Go.Lib in
theorem Tryz.internal_strconv_formatBase10 (blk off cap:Nat) (u:Nat) (d:Array UInt8) (w:World) (hH:Holds (λ(b:UInt8)=>Value.int .u8 (b.toNat:Int)) w blk off d) (hu:u<10 ^ d.size) (hu64:u<18446744073709551616) (hsz:d.size<4611686018427387904) :
  Calls prog 261 #[.slice (some ⟨blk,off,none⟩) d.size cap,.int .u64 u] w λe w'=>
   e=.returned (.tuple #[])/\∃ (n v':Nat) (dk:Array UInt8),w'=(putRow (λ(b:UInt8)=>Value.int .u8 (b.toNat:Int)) w blk off dk).drewN n/\FmtInv d.size u 0 v' dk:=Any.internal_strconv_formatBase10 lays285 blk off cap u d w hH hu hu64 hsz
def laysM246_ren:Go.Shelf.Ren:=⟨fun|246=>258|283=>259|284=>260|285=>261|286=>262|129=>196|317=>283|318=>284|319=>285|320=>286|337=>307|338=>308|n=>n,fun|2=>2|3=>3|9=>9|4=>4|171=>358|0=>0|53=>23|37=>235|5=>5|173=>360|212=>383|51=>287|20=>20|213=>384|46=>174|232=>410|233=>411|n=>n,fun|17=>0|18=>2|19=>3|n=>n⟩
def laysM243_ren:Go.Shelf.Ren:=⟨fun|243=>221|246=>258|283=>259|284=>260|285=>261|286=>262|129=>196|317=>283|318=>284|319=>285|320=>286|337=>307|338=>308|n=>n,fun|3=>3|9=>9|2=>2|4=>4|171=>358|0=>0|53=>23|37=>235|5=>5|173=>360|212=>383|51=>287|20=>20|213=>384|46=>174|232=>410|233=>411|n=>n,fun|17=>0|18=>2|19=>3|n=>n⟩
def laysM171_ren:Go.Shelf.Ren:=⟨fun|171=>173|243=>221|246=>258|283=>259|284=>260|285=>261|286=>262|129=>196|317=>283|318=>284|319=>285|320=>286|337=>307|338=>308|n=>n,fun|3=>3|9=>9|2=>2|4=>4|171=>358|0=>0|53=>23|37=>235|5=>5|173=>360|212=>383|51=>287|20=>20|213=>384|46=>174|232=>410|233=>411|n=>n,fun|17=>0|18=>2|19=>3|n=>n⟩
theorem laysM171:Go.Proofs.LaysM.n171 prog laysM171_ren:={
 mixed:=by kernel_rfl
 f129:=func196.trans (congrArg some (by kernel_rfl))
 f171:=func173.trans (congrArg some (by kernel_rfl))
 f243:=func221.trans (congrArg some (by kernel_rfl))
 f246:=func258.trans (congrArg some (by kernel_rfl))
 f283:=func259.trans (congrArg some (by kernel_rfl))
 f284:=func260.trans (congrArg some (by kernel_rfl))
 f285:=func261.trans (congrArg some (by kernel_rfl))
 f286:=func262.trans (congrArg some (by kernel_rfl))
 f317:=func283.trans (congrArg some (by kernel_rfl))
 f318:=func284.trans (congrArg some (by kernel_rfl))
 f319:=func285.trans (congrArg some (by kernel_rfl))
 f320:=func286.trans (congrArg some (by kernel_rfl))
 f337:=func307.trans (congrArg some (by kernel_rfl))
 f338:=func308.trans (congrArg some (by kernel_rfl))
 t0:=underlying0
 a0:=isAgg0
 z0:=sizeOf0
 v0:=zeroValue0
 t2:=underlying2
 a2:=isAgg2
 z2:=sizeOf2
 v2:=zeroValue2
 t3:=underlying3
 a3:=isAgg3
 z3:=sizeOf3
 v3:=zeroValue3
 t4:=underlying4
 a4:=isAgg4
 z4:=sizeOf4
 v4:=zeroValue4
 t5:=underlying5
 a5:=isAgg5
 z5:=sizeOf5
 v5:=zeroValue5
 t9:=underlying9
 a9:=isAgg9
 z9:=sizeOf9
 v9:=zeroValue9
 t20:=underlying20
 a20:=isAgg20
 z20:=sizeOf20
 v20:=zeroValue20
 t37:=underlying235
 a37:=isAgg235
 z37:=sizeOf235
 v37:=zeroValue235
 t46:=underlying174
 a46:=isAgg174
 z46:=sizeOf174
 v46:=zeroValue174
 t51:=underlying287
 a51:=isAgg287
 z51:=sizeOf287
 v51:=zeroValue287
 t53:=underlying23
 a53:=isAgg23
 z53:=sizeOf23
 v53:=zeroValue23
 t171:=underlying358
 a171:=isAgg358
 z171:=sizeOf358
 v171:=zeroValue358
 t173:=underlying360
 a173:=isAgg360
 z173:=sizeOf360
 v173:=zeroValue360
 t212:=underlying383
 a212:=isAgg383
 z212:=sizeOf383
 v212:=zeroValue383
 t213:=underlying384
 a213:=isAgg384
 z213:=sizeOf384
 t232:=underlying410
 a232:=isAgg410
 z232:=sizeOf410
 v232:=zeroValue410
 t233:=underlying411
 a233:=isAgg411
 z233:=sizeOf411
 v233:=zeroValue411
 g17:=by kernel_rfl
 g18:=by kernel_rfl
 g19:=by kernel_rfl
 i0:=by kernel_rfl
 i2:=by kernel_rfl
 i3:=by kernel_rfl
 i4:=by kernel_rfl
 i5:=by kernel_rfl
 i9:=by kernel_rfl
 i20:=by kernel_rfl
 i37:=by kernel_rfl
 i46:=by kernel_rfl
 i51:=by kernel_rfl
 i53:=by kernel_rfl
 i171:=by kernel_rfl
 i173:=by kernel_rfl
 i212:=by kernel_rfl
 i232:=by kernel_rfl
 i233:=by kernel_rfl
 m17:=by kernel_rfl
 m18:=by kernel_rfl
 m19:=by kernel_rfl }
open RowKit Go.Sort Go.Lib in
theorem Tryz.strconv_Itoa (n : Int) (h0 : -9223372036854775808 ≤ n) (h1 : n ≤ 9223372036854775807) (w : World) (htab : Lib.TabIs prog w "internal/strconv.uint64pow10" .u64 Lib.pow10Tab) :
  Calls prog 173 #[.int .i64 n] w λe w'=>e=.returned (.string ⟨(Lib.itoa n).toArray⟩)/\∃ k os,w'=grow (w.drewN k) os:=Any.strconv_Itoa laysM171 n h0 h1 w htab
def lays171_ren:Go.Shelf.Ren:=⟨fun|171=>173|243=>221|246=>258|283=>259|284=>260|285=>261|286=>262|129=>196|317=>283|318=>284|319=>285|320=>286|337=>307|338=>308|n=>n,fun|3=>3|9=>9|2=>2|4=>4|171=>358|0=>0|53=>23|37=>235|5=>5|173=>360|212=>383|51=>287|20=>20|213=>384|46=>174|232=>410|233=>411|n=>n,fun|17=>0|18=>2|19=>3|n=>n⟩
theorem lays171:Go.Proofs.Lays.n171 prog lays171_ren:={
 mixed:=by kernel_rfl
 f129:=func196.trans (congrArg some (by kernel_rfl))
 f171:=func173.trans (congrArg some (by kernel_rfl))
 f243:=func221.trans (congrArg some (by kernel_rfl))
 f246:=func258.trans (congrArg some (by kernel_rfl))
 f283:=func259.trans (congrArg some (by kernel_rfl))
 f284:=func260.trans (congrArg some (by kernel_rfl))
 f285:=func261.trans (congrArg some (by kernel_rfl))
 f286:=func262.trans (congrArg some (by kernel_rfl))
 f317:=func283.trans (congrArg some (by kernel_rfl))
 f318:=func284.trans (congrArg some (by kernel_rfl))
 f319:=func285.trans (congrArg some (by kernel_rfl))
 f320:=func286.trans (congrArg some (by kernel_rfl))
 f337:=func307.trans (congrArg some (by kernel_rfl))
 f338:=func308.trans (congrArg some (by kernel_rfl))
 t0:=underlying0
 a0:=isAgg0
 z0:=sizeOf0
 v0:=zeroValue0
 t2:=underlying2
 a2:=isAgg2
 z2:=sizeOf2
 v2:=zeroValue2
 t3:=underlying3
 a3:=isAgg3
 z3:=sizeOf3
 v3:=zeroValue3
 t4:=underlying4
 a4:=isAgg4
 z4:=sizeOf4
 v4:=zeroValue4
 t5:=underlying5
 a5:=isAgg5
 z5:=sizeOf5
 v5:=zeroValue5
 t9:=underlying9
 a9:=isAgg9
 z9:=sizeOf9
 v9:=zeroValue9
 t20:=underlying20
 a20:=isAgg20
 z20:=sizeOf20
 v20:=zeroValue20
 t37:=underlying235
 a37:=isAgg235
 z37:=sizeOf235
 v37:=zeroValue235
 t46:=underlying174
 a46:=isAgg174
 z46:=sizeOf174
 v46:=zeroValue174
 t51:=underlying287
 a51:=isAgg287
 z51:=sizeOf287
 v51:=zeroValue287
 t53:=underlying23
 a53:=isAgg23
 z53:=sizeOf23
 v53:=zeroValue23
 t171:=underlying358
 a171:=isAgg358
 z171:=sizeOf358
 v171:=zeroValue358
 t173:=underlying360
 a173:=isAgg360
 z173:=sizeOf360
 v173:=zeroValue360
 t212:=underlying383
 a212:=isAgg383
 z212:=sizeOf383
 v212:=zeroValue383
 t213:=underlying384
 a213:=isAgg384
 z213:=sizeOf384
 t232:=underlying410
 a232:=isAgg410
 z232:=sizeOf410
 v232:=zeroValue410
 t233:=underlying411
 a233:=isAgg411
 z233:=sizeOf411
 v233:=zeroValue411
 g17:=by kernel_rfl
 g18:=by kernel_rfl
 g19:=by kernel_rfl }
open RowKit Go.Sort Go.Lib in
theorem Tryz.strconv_Itoa_small (i:Nat) (hi:i<100) (w:World) :
  Calls prog 173 #[.int .i64 i] w λe w'=>e=.returned (.string ⟨(Lib.decDigits i).toArray⟩)/\w'=w:=Any.strconv_Itoa_small lays171 i hi w
def lays219_ren:Go.Shelf.Ren:=⟨fun|219=>313|217=>289|225=>321|224=>322|267=>323|266=>309|314=>326|n=>n,fun|9=>9|3=>3|4=>4|5=>5|46=>174|146=>386|51=>287|n=>n,fun|1=>1|n=>n⟩
def laysM219_ren:Go.Shelf.Ren:=⟨fun|219=>313|217=>289|225=>321|224=>322|267=>323|266=>309|314=>326|n=>n,fun|9=>9|3=>3|4=>4|5=>5|46=>174|146=>386|51=>287|n=>n,fun|1=>1|n=>n⟩
theorem laysM219:Go.Proofs.LaysM.n219 prog laysM219_ren:={
 mixed:=by kernel_rfl
 f217:=func289.trans (congrArg some (by kernel_rfl))
 f219:=func313.trans (congrArg some (by kernel_rfl))
 f224:=func322.trans (congrArg some (by kernel_rfl))
 f225:=func321.trans (congrArg some (by kernel_rfl))
 f266:=func309.trans (congrArg some (by kernel_rfl))
 f267:=func323.trans (congrArg some (by kernel_rfl))
 f314:=func326.trans (congrArg some (by kernel_rfl))
 t3:=underlying3
 a3:=isAgg3
 z3:=sizeOf3
 v3:=zeroValue3
 t4:=underlying4
 a4:=isAgg4
 z4:=sizeOf4
 v4:=zeroValue4
 t5:=underlying5
 a5:=isAgg5
 z5:=sizeOf5
 v5:=zeroValue5
 t9:=underlying9
 a9:=isAgg9
 z9:=sizeOf9
 v9:=zeroValue9
 t46:=underlying174
 a46:=isAgg174
 z46:=sizeOf174
 v46:=zeroValue174
 t51:=underlying287
 a51:=isAgg287
 z51:=sizeOf287
 v51:=zeroValue287
 t146:=underlying386
 a146:=isAgg386
 z146:=sizeOf386
 v146:=zeroValue386
 g1:=by kernel_rfl
 i3:=by kernel_rfl
 i4:=by kernel_rfl
 i5:=by kernel_rfl
 i9:=by kernel_rfl
 i46:=by kernel_rfl
 i51:=by kernel_rfl
 i146:=by kernel_rfl
 m1:=by kernel_rfl
 s1_3:=λw h=>Go.Proofs.cell_of_shapedOpen_int (zero:=#[.int .i64 0]) (t:=3) h (of_decide_eq_true (by kernel_rfl)) (by kernel_rfl) rfl (by kernel_rfl) (by kernel_rfl) underlying3 }
end Go.Proofs
namespace Go.Proofs.YtbmmnflgnmjboaaGreatDoor
namespace S1
open RowKit
theorem pC (A n:Nat) (hA:A<18446744073709551616):(bits BinOp.and IntKind.u64 ((A:Int) / 2 ^ n) 1 == 1)=A.testBit n:=by
 have e:((A:Int) / 2 ^ n)=((A / 2 ^ n:Nat):Int):=by simp
 have Ha:A / 2 ^ n<18446744073709551616:=Nat.lt_of_le_of_lt (Nat.div_le_self _ _) hA;rw [e,show (1:Int)=((1:Nat):Int) from rfl,bits_and_u64_nat _ _ Ha (by omega),Nat.testBit_eq_decide_div_mod_eq,Nat.and_one_is_mod];rw [Bool.eq_iff_iff];simp;omega
theorem lP (A n:Nat) (w:World) (hA:A<18446744073709551616) (hn:n<64) :
  Calls prog 154 #[.int .u64 A,.int .i64 n] w λe w'=>e=.returned (.bool (A.testBit n))/\w'=w:=by
 have HB:=pC A n hA
 go_enter func154,ntmps154
 go_wp2_with go_in
 go_ret;exact ⟨rfl,rfl⟩
theorem AA (A:Nat) (n:Int) (w:World) (hn:n<0\/64<=n) :
  Calls prog 154 #[.int .u64 A,.int .i64 n] w λe w'=>e=.returned (.bool false)/\w'=w:=by
 have key:n<0\/(0<=n/\64<=n):=by omega
 clear hn
 rcases key with h|⟨h1,h⟩
 all_goals
  go_enter func154,ntmps154
  go_wp2_with go_in
  go_ret;exact ⟨rfl,rfl⟩
def nums (l:List Nat):List Value:=l.map λ(n:Nat)=>Value.int .i64 (n:Int)
theorem kJ (A k:Nat):(Ost.aI A k).length<=k:=by
 unfold Ost.aI;exact Q5 (List.length_filter_le _ _) (by simp)
end S1
section
namespace Ost
theorem lQ (a m q n:Nat) (ha:a<256) (hm:m<256):(a+256*q) &&& (m+256*n)=(a &&& m)+256*(q &&& n):=by
 have h1:∀ x y:Nat,x<256->x+256*y=2 ^ 8*y ||| x:=λx y hx=>by
  rw [<- Nat.two_pow_add_eq_or_of_lt (i:=8) hx];omega
 have h2:a &&& m<256:=Nat.lt_of_le_of_lt Nat.and_le_left ha;rw [h1 a q ha,h1 m n hm,h1 _ (q &&& n) h2];apply Nat.eq_of_testBit_eq;intro i;simp only [Nat.testBit_and,Nat.testBit_or,Nat.testBit_two_pow_mul]
 by_cases hi:8<=i
 ·have e1:a.testBit i=false:=Nat.testBit_lt_two_pow (Q1 ha (Nat.pow_le_pow_right (n:=2) (by omega) hi));have e2:m.testBit i=false:=Nat.testBit_lt_two_pow (Q1 hm (Nat.pow_le_pow_right (n:=2) (by omega) hi))
  simp [e1,e2,hi]
 ·simp [hi]
def M0:Nat->Nat
 | 0=>0
 | k+1=>85+256*M0 k
def M1:Nat->Nat
 | 0=>0
 | k+1=>51+256*M1 k
def M2:Nat->Nat
 | 0=>0
 | k+1=>15+256*M2 k
def p1 (k x:Nat):Nat:=(x / 2 &&& M0 k)+(x &&& M0 k)
def p2 (k x:Nat):Nat:=(x / 4 &&& M1 k)+(x &&& M1 k)
def p3 (k x:Nat):Nat:=(x / 16+x) &&& M2 k
def f1 (b:Nat):Nat:=(b / 2 &&& 85)+(b &&& 85)
def f2 (b:Nat):Nat:=(b / 4 &&& 51)+(b &&& 51)
def f3 (b:Nat):Nat:=(b / 16+b) &&& 15
theorem c1:∀ (b:Fin 256) (c:Fin 2),(b.val / 2+128*c.val) &&& 85=b.val / 2 &&& 85:=by decide +kernel
theorem c2:∀ (b:Fin 256) (c:Fin 4),(b.val / 4+64*c.val) &&& 51=b.val / 4 &&& 51:=by decide +kernel
theorem c3:∀ (b:Fin 256) (c:Fin 5),(f2 (f1 b.val) / 16+f2 (f1 b.val)+16*c.val) &&& 15=f3 (f2 (f1 b.val)):=by decide +kernel
theorem c4:∀ b:Fin 256,f1 b.val<256/\f2 (f1 b.val)<69/\f2 (f1 b.val) % 16<=4/\f3 (f2 (f1 b.val))<=8:=by decide +kernel
theorem AB (k b q:Nat) (hb:b<256):p1 (k+1) (b+256*q)=f1 b+256*p1 k q:=by
 unfold p1 f1;have e:(b+256*q) / 2=(b / 2+128*(q % 2))+256*(q / 2):=by omega
 rw [e,M0,lQ _ 85 _ _ (by omega) (by omega),lQ b 85 q _ hb (by omega)];have h:=c1 ⟨b,hb⟩ ⟨q % 2,by omega⟩;simp only at h;rw [h];generalize b / 2 &&& 85=u1;generalize b &&& 85=u2;generalize q / 2 &&& M0 k=u3;generalize q &&& M0 k=u4;omega
theorem AC (k b q:Nat) (hb:b<256):p2 (k+1) (b+256*q)=f2 b+256*p2 k q:=by
 unfold p2 f2;have e:(b+256*q) / 4=(b / 4+64*(q % 4))+256*(q / 4):=by omega
 rw [e,M1,lQ _ 51 _ _ (by omega) (by omega),lQ b 51 q _ hb (by omega)];have h:=c2 ⟨b,hb⟩ ⟨q % 4,by omega⟩;simp only at h;rw [h];generalize b / 4 &&& 51=u1;generalize b &&& 51=u2;generalize q / 4 &&& M1 k=u3;generalize q &&& M1 k=u4;omega
theorem sZ (k x:Nat):p2 (k+1) (p1 (k+1) x)=f2 (f1 (x % 256))+256*p2 k (p1 k (x / 256)):=by
 have hb:x % 256<256:=Nat.mod_lt _ (by omega)
 conv=>lhs;rw [show x=x % 256+256*(x / 256) by omega]
 rw [AB k _ _ hb,AC k _ _ (c4 ⟨_,hb⟩).1]
theorem AD (k x:Nat):p2 k (p1 k x) % 16<=4:=by
 cases k with
 | zero=>simp [p2,M1]
 | succ k=>
  have hb:x % 256<256:=Nat.mod_lt _ (by omega);have h:=(c4 ⟨x % 256,hb⟩).2.2.1;rw [sZ];simp only at h;omega
def G (k x:Nat):Nat:=p3 k (p2 k (p1 k x))
def g8 (b:Nat):Nat:=f3 (f2 (f1 b))
theorem jf (k x:Nat):G (k+1) x=g8 (x % 256)+256*G k (x / 256):=by
 have hb:x % 256<256:=Nat.mod_lt _ (by omega);unfold G g8;rw [sZ];have hq:=AD k (x / 256);generalize hQ:p2 k (p1 k (x / 256))=Q at hq ⊢;have hF:=(c4 ⟨x % 256,hb⟩).2.1;have h3:=c3 ⟨x % 256,hb⟩ ⟨Q % 16,by omega⟩;simp only at hF h3;generalize f2 (f1 (x % 256))=F at hF h3 ⊢;unfold p3;have e:(F+256*Q) / 16+(F+256*Q)=(F / 16+F+16*(Q % 16))+256*(Q / 16+Q):=by omega
 rw [e,M2,lQ _ 15 _ _ (by omega) (by omega),h3]
theorem td (b q i:Nat) (hb:b<256):(b+256*q).testBit i=if i<8 then b.testBit i else q.testBit (i - 8):=by
 have e:b+256*q=2 ^ 8*q+b:=by omega
 rw [e,Nat.testBit_two_pow_mul_add q (i:=8) hb]
theorem AE (b q k:Nat) (hb:b<256):(aI (b+256*q) (8+k)).length=(aI b 8).length+(aI q k).length:=by
 induction k with
 | zero=>
  have:aI (b+256*q) (8+0)=aI b 8:=by
   unfold aI;apply List.filter_congr;intro i hi;rw [td b q i hb,if_pos (by simpa using hi)]
  rw [this];rfl
 | succ k ih=>
  show (aI (b+256*q) ((8+k)+1)).length=_
  have e:(b+256*q).testBit (8+k)=q.testBit k:=by
   rw [td b q _ hb,if_neg (by omega),show 8+k - 8=k by omega]
  rw [jS,jS q,e]
  by_cases h:q.testBit k=true
  ·rw [if_pos h,if_pos h,Q2,Q2,ih];simp;omega
  ·rw [if_neg h,if_neg h,ih]
theorem c5:∀ b:Fin 256,g8 b.val=(aI b.val 8).length:=by decide +kernel
theorem jg (x k:Nat):(aI x (8+k)).length=g8 (x % 256)+(aI (x / 256) k).length:=by
 have hb:x % 256<256:=Nat.mod_lt _ (by omega)
 conv=>lhs;rw [show x=x % 256+256*(x / 256) by omega]
 rw [AE _ _ k hb,<- c5 ⟨_,hb⟩]
theorem jh (x:Nat):g8 (x % 256)<=8:=(c4 ⟨x % 256,Nat.mod_lt _ (by omega)⟩).2.2.2
theorem th (x:Nat):∃ a b c d e f g h:Nat,a<=8/\b<=8/\c<=8/\d<=8/\e<=8/\f<=8/\g<=8/\h<=8/\
  G 8 x=a+256*(b+256*(c+256*(d+256*(e+256*(f+256*(g+256*h))))))/\(aI x 64).length=a+b+c+d+e+f+g+h:=by
 refine ⟨_,_,_,_,_,_,_,_,jh x,jh (x / 256),jh (x / 256 / 256),jh (x / 256 / 256 / 256),jh (x / 256 / 256 / 256 / 256),jh (x / 256 / 256 / 256 / 256 / 256),jh (x / 256 / 256 / 256 / 256 / 256 / 256),jh (x / 256 / 256 / 256 / 256 / 256 / 256 / 256),?_,?_⟩
 ·rw [jf,jf,jf,jf,jf,jf,jf,jf]
  have:∀ y,G 0 y=0:=λy=>by simp [G,p3,M2]
  rw [this,Nat.mul_zero,Nat.add_zero]
 ·rw [jg x 56,jg (x / 256) 48,jg (x / 256 / 256) 40,jg (x / 256 / 256 / 256) 32,jg (x / 256 / 256 / 256 / 256) 24,jg (x / 256 / 256 / 256 / 256 / 256) 16,jg (x / 256 / 256 / 256 / 256 / 256 / 256) 8,jg (x / 256 / 256 / 256 / 256 / 256 / 256 / 256) 0]
  have:∀ y,(aI y 0).length=0:=λy=>rfl
  rw [this];omega
end Ost
end
section
open RowKit
theorem two (b:Bool):b=true\/b=false:=by cases b <;> simp
theorem qI {p:Prop} (h:p):Hid p:=h
def au (n:Int):Value:=if n=0 then .nilIface else .iface 121 (.int .i64 n)
theorem below_drewN {B:Nat} {a w:World} (h:Below B a w) (n:Nat):Below B a (w.drewN n):=⟨h.os,h.tape,h.output,h.size,h.block⟩
theorem lS (s n:Nat) (hs:s<18446744073709551616) (hn:n<64):bits BinOp.or IntKind.u64 (s:Int) (IntKind.u64.wrap (2 ^ n))=((s ||| 2 ^ n:Nat):Int):=by
 have hp:2 ^ n<18446744073709551616:=Nat.pow_lt_pow_right (a:=2) (by omega) hn;rw [show (2 ^ n:Int)=((2 ^ n:Nat):Int) by simp];generalize 2 ^ n=q at hp ⊢;rw [IntKind.wrap_u64,show (q:Int) % 18446744073709551616=(q:Int) by omega];exact bits_or_u64_nat s q hs hp
theorem pC (A n:Nat) (hA:A<18446744073709551616):(bits BinOp.and IntKind.u64 ((A:Int) / 2 ^ n) 1 == 1)=A.testBit n:=by
 have e:((A:Int) / 2 ^ n)=((A / 2 ^ n:Nat):Int):=by simp
 have Ha:A / 2 ^ n<18446744073709551616:=Nat.lt_of_le_of_lt (Nat.div_le_self _ _) hA;rw [e,show (1:Int)=((1:Nat):Int) from rfl,bits_and_u64_nat _ _ Ha (by omega),Nat.testBit_eq_decide_div_mod_eq,Nat.and_one_is_mod];rw [Bool.eq_iff_iff];simp;omega
structure Apart (K:Nat->Prop) (W W':World):Prop where
 os:W'.os=W.os
 tape:W'.tape=W.tape
 output:W'.output=W.output
 size:W.heap.size<=W'.heap.size
 block:∀ j,j<W.heap.size->¬ K j->W'.heap[j]?=W.heap[j]?
theorem Apart.refl (K:Nat->Prop) (W:World):Apart K W W:=⟨rfl,rfl,rfl,lR,λ_ _ _=>rfl⟩
theorem Apart.trans {K:Nat->Prop} {A B C:World} (h:Apart K A B) (k:Apart K B C):Apart K A C:=
 ⟨k.os.trans h.os,k.tape.trans h.tape,k.output.trans h.output,Q5 h.size k.size,λj hj hk=>(k.block j (Q1 hj h.size) hk).trans (h.block j hj hk)⟩
theorem Apart.wide {K K':Nat->Prop} {A B:World} (h:Apart K A B) (hk:∀ j,K j->K' j):Apart K' A B:=
 ⟨h.os,h.tape,h.output,h.size,λj hj hn=>h.block j hj λe=>hn (hk j e)⟩
theorem Apart.of_below {K:Nat->Prop} {W W':World} (h:Below W.heap.size W W'):Apart K W W':=⟨h.os,h.tape,h.output,h.size,λj hj _=>h.block j hj⟩
theorem Apart.alloc (K:Nat->Prop) (W:World) (o:Obj):Apart K W (W.alloc o):=.of_below ((Q0 _ W).alloc (lR) o)
theorem Apart.drewN (K:Nat->Prop) (W:World) (n:Nat):Apart K W (W.drewN n):=⟨rfl,rfl,rfl,lR,λ_ _ _=>rfl⟩
theorem Apart.setCell {K:Nat->Prop} {b:Nat} (hb:K b) (W:World) (j:Nat) (v:Value):Apart K W (W.setCell ⟨b,j,none⟩ v):=
 ⟨rfl,rfl,rfl,(KeepsWalks.setCell W _ v).size,λk _ hn=>Below.heap_setCell _ _ _ k λe=>hn (by rw [e];exact hb)⟩
section
variable {F:Fence} {n:Nat} {P:Program}
end
end
namespace S1
open RowKit
def au (n:Int):Value:=if n=0 then .nilIface else .iface 121 (.int .i64 n)
def Mx (w:World):Prop:=∃ m:Int,w.cell? ⟨1,0,none⟩=some (.int .i64 m)
theorem Mx.below {w w':World} (h:Mx w) (hb:Below w.heap.size w w'):Mx w':=by
 obtain ⟨m,hm⟩:=h;exact ⟨m,(hb.cell (p:=⟨1,0,none⟩) (Q3 w _ hm)).trans hm⟩
end S1
section
open RowKit
theorem AF (s:ByteArray) (k:Nat) (h2:k<s.data.toList.length):s.data.toList[k]=s[k]'(by simpa using h2):=by simp [ByteArray.getElem_eq_getElem_data]
theorem AG (s:ByteArray) (w:World) (hs:s.size<=maxLen) :
  Calls prog 179 #[.string s] w λe w'=>e=.returned (.int .u32 (Sv.fnv s.data.toList:Nat))/\w'=w:=by
 unfold maxLen at hs;have HL:Hid (s.data.toList.length=s.size):=by unfold Hid;simp
 go_enter func179,ntmps179
 go_wp2_with fail
 go_loop [3,7] (λh i=>∃ k:Nat,k<=s.size/\i=.int .i64 k/\h=.int .u32 (Sv.fnv (s.data.toList.take k):Nat)) (λ_ i=>s.size - (intOf i).toNat)
 case atStart=>exact ⟨0,by omega,rfl,by simp [Sv.fnv]⟩
 case round=>
  obtain ⟨k,hk,rfl,rfl⟩:=hrel
  by_cases hlt:k<s.size
  ·have Ha:k<s.data.toList.length:=by rw [HL.out];exact hlt
   have HN:=qI (Sv.Ak Ha);rw [AF s k Ha] at HN;have hh:=Sv.pz (s.data.toList.take k);generalize Sv.fnv (s.data.toList.take k)=H at *;have hb:s[k].toNat<4294967296:=by have:=s[k].toNat_lt;omega
   have hx:=Sv.Am hh hb;have hm:=Sv.An H s[k]
   go_wp2_with fail
   go_round
   case rel=>exact ⟨k+1,by omega,rfl,by rw [HN.out]⟩
   case measure=>simp [intOf];omega
  ·have Hb:k=s.size:=by omega
   subst Hb;have HE:Hid (s.data.toList.take s.size=s.data.toList):=by unfold Hid;rw [<- HL.out,Qh]
   go_wp2
   go_ret;exact ⟨congrArg (λl=>Ending.returned (.int .u32 (Sv.fnv l:Nat))) HE.out,rfl⟩
end
namespace S1
open RowKit
end S1
section
open RowKit Shelf
open Ost (dL)
attribute [local go_sem] Oper.semAt_some
def KSp (h j:Nat):Prop:=j=h\/j=h+1\/j=h+2
structure NH (W:World) (h:Nat) (c:UInt8) (s:List UInt8):Prop where
 s:Boxed W h 9 (.string ⟨s.toArray⟩)
 p:Boxed W (h+1) 9 (.string ⟨#[c]⟩)
 z:Boxed W (h+2) 3 (.int .i64 0)
end
section
open RowKit
def NI (R:Act->World->Prop):Exit->Act->World->Prop
 | .normal,a,w=>R a w
 | _,_,_=>False
section
variable {P:Program} {ops:Array Oper} {Q:Exit->Act->World->Prop} {l n:Nat}
end
end
section
open RowKit Shelf
open Ost (dL)
attribute [local go_sem] Oper.semAt_some
theorem Apart.drew (K:Nat->Prop) (W:World):Apart K W W.drew:=⟨rfl,rfl,rfl,lR,λ_ _ _=>rfl⟩
end
section
open RowKit
theorem ti {fn:Func} {p:Tmp} {ty:TypeId} (h:fn.results=#[.cell p ty]) (tmps:Array Value) (P:Program) (w:World) :
  (results fn tmps).run P w=((asAddr (tmps.getD p undef)).run P w).andThen λa w₁=>(loadVar ty a).run P w₁:=by
 simp only [results,h]
 simp [Sem.run_bind,Result.andThen]
structure Sd where
 ft:Bool
 fb:ByteArray
 dt:Bool
 db:ByteArray
def Sd.agg (s:Sd):Value:=.agg #[.bool s.ft,.string s.fb,.bool s.dt,.string s.db]
structure Chg where
 wr:Bool
 bs:ByteArray
def Chg.agg (c:Chg):Value:=.agg #[.bool c.wr,.string c.bs]
def Chg.on (c:Chg) (s:Sd):Sd:=if c.wr=true then ⟨s.ft,s.fb,true,c.bs⟩ else ⟨s.dt,s.db,false,⟨#[]⟩⟩
theorem AH (c:Chg) (s:Sd) (w:World):Calls prog 180 #[c.agg,s.agg] w λe w'=>e=.returned (c.on s).agg/\Below w.heap.size w w':=by
 obtain ⟨wr,bs⟩:=c;obtain ⟨ft,fb,dt,db⟩:=s;unfold Chg.agg Sd.agg;dsimp only;have hb:=(((Q0 w.heap.size w).alloc (lR) (.cells #[.bool wr,.string bs] 247)).alloc (by simp) (.cells #[.bool ft,.string fb,.bool dt,.string db] 143));cases wr with
 | true=>
  have HB:=qI (hb.alloc hb.size (.cells #[.bool ft,.string fb,.bool true,.string bs] 143));clear hb
  go_enter func180,ntmps180
  go_wp2_with fail
  refine bodyPost_ret (v:=.agg #[.bool ft,.string fb,.bool true,.string bs]) ?_ rfl ⟨rfl,HB.out⟩;rw [ti rfl];go_simp
 | false=>
  have HB:=qI (hb.alloc hb.size (.cells #[.bool dt,.string db,.bool false,.string ⟨#[]⟩] 143));clear hb
  go_enter func180,ntmps180
  go_wp2_with fail
  refine bodyPost_ret (v:=.agg #[.bool dt,.string db,.bool false,.string ⟨#[]⟩]) ?_ rfl ⟨rfl,HB.out⟩;rw [ti rfl];go_simp
end
namespace S1
open RowKit
end S1
namespace S1
open RowKit
theorem pD (b:Bool):b=true\/b=false:=by cases b <;> simp
theorem qI' {p:Prop} (h:p):Hid p:=h
end S1
namespace S1
open RowKit
namespace Ost
open Go.Proofs.YtbmmnflgnmjboaaGreatDoor.Ost
end Ost
end S1
namespace S1
open RowKit
theorem m0:Ost.M0 8=6148914691236517205:=by decide +kernel
theorem m1:Ost.M1 8=3689348814741910323:=by decide +kernel
theorem m2:Ost.M2 8=1085102592571150095:=by decide +kernel
theorem gq (a:Nat) (m:Nat) (ha:a<18446744073709551616) (hm:m<18446744073709551616) (z:Int) (hz:z=(a:Int)):bits BinOp.and IntKind.u64 z (m:Int)=((a &&& m:Nat):Int):=by
 rw [hz];exact bits_and_u64_nat a m ha hm
theorem wrapN (n:Nat) (z:Int) (hz:z=(n:Int)) (h:n<18446744073709551616):IntKind.u64.wrap z=(n:Int):=by
 rw [IntKind.wrap_u64,hz];omega
theorem pE (A:Nat) (hA:A<18446744073709551616):IntKind.u64.wrap (bits BinOp.and IntKind.u64 ((A:Int) / 2) 6148914691236517205+bits BinOp.and IntKind.u64 (A:Int) 6148914691236517205)=((Ost.p1 8 A:Nat):Int)/\Ost.p1 8 A<18446744073709551616:=by
 have e1:=gq (A / 2) 6148914691236517205 (by omega) (by omega) ((A:Int) / 2) (by omega);have e2:=gq A 6148914691236517205 hA (by omega) (A:Int) rfl;have l1:A / 2 &&& 6148914691236517205<=6148914691236517205:=Nat.and_le_right;have l2:A &&& 6148914691236517205<=6148914691236517205:=Nat.and_le_right;have hp:Ost.p1 8 A=(A / 2 &&& 6148914691236517205)+(A &&& 6148914691236517205):=by unfold Ost.p1;rw [m0]
 rw [hp];refine ⟨?_,by omega⟩;apply wrapN _ _ _ (by omega);rw [show (6148914691236517205:Int)=((6148914691236517205:Nat):Int) from rfl,e1,e2];omega
theorem pF (x:Nat) (hx:x<18446744073709551616):IntKind.u64.wrap (bits BinOp.and IntKind.u64 ((x:Int) / 4) 3689348814741910323+bits BinOp.and IntKind.u64 (x:Int) 3689348814741910323)=((Ost.p2 8 x:Nat):Int)/\Ost.p2 8 x<=7378697629483820646:=by
 have e1:=gq (x / 4) 3689348814741910323 (by omega) (by omega) ((x:Int) / 4) (by omega);have e2:=gq x 3689348814741910323 hx (by omega) (x:Int) rfl;have l1:x / 4 &&& 3689348814741910323<=3689348814741910323:=Nat.and_le_right;have l2:x &&& 3689348814741910323<=3689348814741910323:=Nat.and_le_right;have hp:Ost.p2 8 x=(x / 4 &&& 3689348814741910323)+(x &&& 3689348814741910323):=by unfold Ost.p2;rw [m1]
 rw [hp];refine ⟨?_,by omega⟩;apply wrapN _ _ _ (by omega);rw [show (3689348814741910323:Int)=((3689348814741910323:Nat):Int) from rfl,e1,e2];omega
theorem pG (x:Nat) (hx:x<=7378697629483820646):bits BinOp.and IntKind.u64 (IntKind.u64.wrap ((x:Int) / 16+(x:Int))) 1085102592571150095=((Ost.p3 8 x:Nat):Int):=by
 have hw:=wrapN (x / 16+x) ((x:Int) / 16+(x:Int)) (by omega) (by omega);rw [hw];have hp:Ost.p3 8 x=(x / 16+x) &&& 1085102592571150095:=by unfold Ost.p3;rw [m2]
 rw [hp];exact gq (x / 16+x) 1085102592571150095 (by omega) (by omega) _ rfl
def aV (a b c d e f g h:Nat):Nat:=a+256*(b+256*(c+256*(d+256*(e+256*(f+256*(g+256*h))))))
theorem iB (a b c d e f g h:Nat) (_ha:a<=64) (_hb:b<=64) (_hc:c<=64) (_hd:d<=64) (_he:e<=64) (_hf:f<=64) (_hg:g<=64) (_hh:h<=64):aV a b c d e f g h<4700000000000000000:=by unfold aV;omega
theorem sh8 (a b c d e f g h:Nat) (_ha:a<=8) (_hb:b<=8) (_hc:c<=8) (_hd:d<=8) (_he:e<=8) (_hf:f<=8) (_hg:g<=8) (_hh:h<=8) :
  aV a b c d e f g h+aV a b c d e f g h / 256=aV (a+b) (b+c) (c+d) (d+e) (e+f) (f+g) (g+h) h:=by
 have:aV a b c d e f g h / 256=b+256*(c+256*(d+256*(e+256*(f+256*(g+256*h))))):=by unfold aV;omega
 rw [this];unfold aV;omega
theorem pH (a b c d e f g h:Nat) (_ha:a<=16) (_hb:b<=16) (_hc:c<=16) (_hd:d<=16) (_he:e<=16) (_hf:f<=16) (_hg:g<=16) (_hh:h<=16) :
  aV a b c d e f g h+aV a b c d e f g h / 65536=aV (a+c) (b+d) (c+e) (d+f) (e+g) (f+h) g h:=by
 have:aV a b c d e f g h / 65536=c+256*(d+256*(e+256*(f+256*(g+256*h)))):=by unfold aV;omega
 rw [this];unfold aV;omega
theorem pI (a b c d e f g h:Nat) (_ha:a<=32) (_hb:b<=32) (_hc:c<=32) (_hd:d<=32) (_he:e<=32) (_hf:f<=32) (_hg:g<=32) (_hh:h<=32) :
  aV a b c d e f g h+aV a b c d e f g h / 4294967296=aV (a+e) (b+f) (c+g) (d+h) e f g h:=by
 have:aV a b c d e f g h / 4294967296=e+256*(f+256*(g+256*h)):=by unfold aV;omega
 rw [this];unfold aV;omega
theorem pJ (a b c d e f g h:Nat) (_ha:a<=64):aV a b c d e f g h % 128=a:=by unfold aV;omega
theorem steps (A:Nat) (hA:A<18446744073709551616):∃ x1 x2 X Y Z V:Nat,
  IntKind.u64.wrap (bits BinOp.and IntKind.u64 ((A:Int) / 2) 6148914691236517205+bits BinOp.and IntKind.u64 (A:Int) 6148914691236517205)=(x1:Int)/\
  IntKind.u64.wrap (bits BinOp.and IntKind.u64 ((x1:Int) / 4) 3689348814741910323+bits BinOp.and IntKind.u64 (x1:Int) 3689348814741910323)=(x2:Int)/\
  bits BinOp.and IntKind.u64 (IntKind.u64.wrap ((x2:Int) / 16+(x2:Int))) 1085102592571150095=(X:Int)/\
  IntKind.u64.wrap ((X:Int)+(X:Int) / 256)=(Y:Int)/\IntKind.u64.wrap ((Y:Int)+(Y:Int) / 65536)=(Z:Int)/\IntKind.u64.wrap ((Z:Int)+(Z:Int) / 4294967296)=(V:Int)/\
  V % 128=(Ost.aI A 64).length/\V<4700000000000000000:=by
 obtain ⟨a,b,c,d,e,f,g,h,ha,hb,hc,hd,he,hf,hg,hh,hX,hS⟩:=Ost.th A;have h1:=pE A hA;have h2:=pF (Ost.p1 8 A) h1.2;have h3:=pG (Ost.p2 8 (Ost.p1 8 A)) h2.2;have Ha:Ost.p3 8 (Ost.p2 8 (Ost.p1 8 A))=aV a b c d e f g h:=hX;rw [Ha] at h3;have l1:=iB a b c d e f g h (by omega) (by omega) (by omega) (by omega) (by omega) (by omega) (by omega) (by omega);have s1:=sh8 a b c d e f g h ha hb hc hd he hf hg hh;have l2:=iB (a+b) (b+c) (c+d) (d+e) (e+f) (f+g) (g+h) h (by omega) (by omega) (by omega) (by omega) (by omega) (by omega) (by omega) (by omega);have s2:=pH (a+b) (b+c) (c+d) (d+e) (e+f) (f+g) (g+h) h (by omega) (by omega) (by omega) (by omega) (by omega) (by omega) (by omega) (by omega);have l3:=iB (a+b+(c+d)) (b+c+(d+e)) (c+d+(e+f)) (d+e+(f+g)) (e+f+(g+h)) (f+g+h) (g+h) h (by omega) (by omega) (by omega) (by omega) (by omega) (by omega) (by omega) (by omega);have s3:=pI (a+b+(c+d)) (b+c+(d+e)) (c+d+(e+f)) (d+e+(f+g)) (e+f+(g+h)) (f+g+h) (g+h) h (by omega) (by omega) (by omega) (by omega) (by omega) (by omega) (by omega) (by omega);have l4:=iB (a+b+(c+d)+(e+f+(g+h))) (b+c+(d+e)+(f+g+h)) (c+d+(e+f)+(g+h)) (d+e+(f+g)+h) (e+f+(g+h)) (f+g+h) (g+h) h (by omega) (by omega) (by omega) (by omega) (by omega) (by omega) (by omega) (by omega);refine ⟨_,_,_,aV (a+b) (b+c) (c+d) (d+e) (e+f) (f+g) (g+h) h,aV (a+b+(c+d)) (b+c+(d+e)) (c+d+(e+f)) (d+e+(f+g)) (e+f+(g+h)) (f+g+h) (g+h) h,_,h1.1,h2.1,h3,?_,?_,?_,pJ (a+b+(c+d)+(e+f+(g+h))) (b+c+(d+e)+(f+g+h)) (c+d+(e+f)+(g+h)) (d+e+(f+g)+h) (e+f+(g+h)) (f+g+h) (g+h) h (by omega) |>.trans (by rw [hS];omega),l4⟩
 ·exact wrapN _ _ (by rw [<- s1];simp) (by omega)
 ·exact wrapN _ _ (by rw [<- s2];simp) (by omega)
 ·exact wrapN _ _ (by rw [<- s3];simp) (by omega)
theorem pK (A:Nat) (w:World) (hA:A<18446744073709551616) :
  Calls prog 44 #[.int .u64 A] w λe w'=>e=.returned (.int .i64 ((Ost.aI A 64).length:Nat))/\w'=w:=by
 obtain ⟨x1,x2,X,Y,Z,V,r1,r2,r3,r4,r5,r6,e,hV⟩:=steps A hA;have HE:=qI' e;clear e
 go_enter func44,ntmps44
 go_wp2
 go_ret;refine ⟨?_,rfl⟩;have e:bits BinOp.and IntKind.i64 (V:Int) 127=((Ost.aI A 64).length:Nat):=by
  rw [i64_and127];have:=HE.out;omega
 exact congrArg (λz=>Ending.returned (.int .i64 z)) e
theorem kK (A:Nat) (w:World) (hA:A<18446744073709551616) :
  Calls prog 17 #[.int .u64 A] w λe w'=>e=.returned (.int .i64 ((Ost.aI A 64).length:Nat))/\w'=w:=by
 go_enter func17,ntmps17
 go_wp2_with fail
 refine (pK A _ hA).mono ?_;rintro e w' ⟨rfl,rfl⟩
 go_wp2
 go_ret;exact ⟨rfl,rfl⟩
end S1
namespace S1
open RowKit
def Tab (w : World) : Prop := Lib.TabIs prog w "internal/strconv.uint64pow10" .u64 Lib.pow10Tab
theorem kL : prog.globalNamed "internal/strconv.uint64pow10" = some 0 := by kernel_rfl
theorem Tab.below {w w':World} (h:Tab w) (hb:Below w.heap.size w w') (hB:0<w.heap.size):Tab w':=var?_below hb kL hB h
theorem below_grow (B:Nat) (w:World) (hB:B<=w.heap.size) (k:Nat) (os:Array Obj):Below B w (Sort.grow (w.drewN k) os):=
 ⟨rfl,rfl,rfl,by simp [Sort.grow],λi hi=>by
  show (w.heap++os)[i]?=_
  rw [Array.getElem?_append_left (by omega)]⟩
def dec (n:Int):List UInt8:=Lib.decDigits n.toNat
theorem lT (n:Int) (w:World) (h0:0<=n) (h1:n<=9223372036854775807) (ht:Tab w) :
  Calls prog 173 #[.int .i64 n] w λe w'=>e=.returned (.string ⟨(dec n).toArray⟩)/\Below w.heap.size w w':=by
 refine (Tryz.strconv_Itoa n (by omega) h1 w ht).mono ?_;rintro e w' ⟨he,k,os,rfl⟩;refine ⟨?_,below_grow _ w (lR) k os⟩;rw [he,Lib.itoa,if_neg (by omega)];rfl
end S1
namespace S1
open RowKit
theorem tj (a b:List UInt8):(ByteArray.mk a.toArray)++(ByteArray.mk b.toArray)=ByteArray.mk (a++b).toArray:=by
 apply ByteArray.ext;simp
theorem tl (n:Nat) (h:n<100):(Lib.decDigits n).length<=2:=by
 by_cases h1:n<10
 ·rw [Lib.decDigits_one h1];simp
 ·rw [Lib.decDigits_two h1 h];simp
theorem tm (f l:Nat) (w:World) (hf:f<64) (hl:l<64) :
  Calls prog 224 #[.int .i64 f,.int .i64 l] w λe w'=>e=.returned (.string ⟨(Ost.cZ (f,l)).toArray⟩)/\w'=w:=by
 have l1:=tl f (by omega);have l2:=tl l (by omega)
 by_cases h:f=l
 ·subst h;have H:Hid (Ost.cZ (f,f)=Lib.decDigits f):=by simp [Hid,Ost.cZ]
  go_enter func224,ntmps224
  go_wp2_with fail
  refine (Tryz.strconv_Itoa_small f (by omega) _).mono ?_;rintro e w' ⟨rfl,rfl⟩
  go_wp2
  go_ret;exact ⟨by rw [H.out];rfl,rfl⟩
 ·have H:Hid (Ost.cZ (f,l)=Lib.decDigits f++[45]++Lib.decDigits l):=by simp [Hid,Ost.cZ,h]
  have h1:((f:Int) == (l:Int))=false:=by simp;omega
  clear h
  go_enter func224,ntmps224
  go_wp2_with fail
  refine (Tryz.strconv_Itoa_small f (by omega) _).mono ?_;rintro e w' ⟨rfl,rfl⟩
  go_wp2_with fail
  refine (Tryz.strconv_Itoa_small l (by omega) _).mono ?_;rintro e w' ⟨rfl,rfl⟩
  go_wp2
  go_ret;refine ⟨?_,rfl⟩;rw [H.out]
  show Ending.returned (.string ((ByteArray.mk (Lib.decDigits f).toArray++ByteArray.mk [45].toArray)++ByteArray.mk (Lib.decDigits l).toArray))=_
  rw [tj,tj]
def hasB (A:Nat) (z:Int):Bool:=decide (0<=z/\z<64) && A.testBit z.toNat
theorem pL (A k:Nat) (hA:A<18446744073709551616):hasB A (k:Int)=A.testBit k:=by
 unfold hasB
 by_cases h:k<64
 ·rw [Qc (by omega),Int.toNat_natCast];rfl
 ·rw [Q7 (by omega)]
  have:A.testBit k=false:=Nat.testBit_lt_two_pow (Q1 hA (Nat.pow_le_pow_right (n:=2) (by omega) (show 64<=k by omega)))
  rw [this];rfl
theorem tn (A:Nat) (z:Int) (w:World) (hA:A<18446744073709551616) :
  Calls prog 154 #[.int .u64 A,.int .i64 z] w λe w'=>e=.returned (.bool (hasB A z))/\w'=w:=by
 unfold hasB
 by_cases h:0<=z/\z<64
 ·obtain ⟨n,rfl⟩:=Int.eq_ofNat_of_zero_le h.1;rw [Qc h,Int.toNat_natCast];exact lP A n w hA (by omega)
 ·rw [Q7 h];exact AA A z w (by omega)
theorem ji (A:Nat) (z:Int) (w:World) (hA:A<18446744073709551616) (h:hasB A z=true) :
  Calls prog 154 #[.int .u64 A,.int .i64 z] w λe w'=>e=.returned (.bool true)/\w'=w:=by
 have:=tn A z w hA
 rw [h] at this;exact this
theorem lU (A:Nat) (z:Int) (w:World) (hA:A<18446744073709551616) (h:hasB A z=false) :
  Calls prog 154 #[.int .u64 A,.int .i64 z] w λe w'=>e=.returned (.bool false)/\w'=w:=by
 have:=tn A z w hA
 rw [h] at this;exact this
theorem iC:(prog.info? 9).map (λi=>(i.zero,i.size,i.bytes))=some (some (.string ⟨#[]⟩),1,16):=by kernel_rfl
def strs (l:List (List UInt8)):List Value:=l.map λ(b:List UInt8)=>Value.string ⟨b.toArray⟩
theorem jV (l:List (List UInt8)) (b:List UInt8):strs (l++[b])=strs l++[.string ⟨b.toArray⟩]:=by simp [strs]
theorem jj (l:List (List UInt8)):∀ u∈strs l,u.oneCell'=true:=by
 intro u hu;obtain ⟨_,_,rfl⟩:=Qk.1 hu;rfl
theorem AI (A k:Nat):(Ost.ex A k).length<=k:=by
 induction k with
 | zero=>exact lR
 | succ k ih=>
  unfold Ost.ex
  split
  ·rw [Q2];simp;omega
  ·omega
theorem AJ (A k:Nat):Ost.fL A k<=k:=by
 induction k with
 | zero=>exact lR
 | succ k ih=>unfold Ost.fL;split <;> omega
def dA (A k:Nat):List (List UInt8):=(Ost.ex A k).map Ost.cZ
theorem tr (A k:Nat):(dA A k).length<=k:=by unfold dA;rw [Q9];exact AI A k
theorem tt (A k:Nat) (h0:A.testBit k=true) (h1:A.testBit (k+1)=false):dA A (k+1)=dA A k++[Ost.cZ (Ost.fL A k,k)]:=by
 simp [dA,Ost.ex,h0,h1]
theorem pM (A k:Nat) (h:A.testBit k=false\/A.testBit (k+1)=true):dA A (k+1)=dA A k:=by
 unfold dA;rw [Ost.ex]
 rcases h with h|h <;> simp [h]
theorem AK (A:Nat) (w:World) (hA:A<18446744073709551616)
  (hJ:Hid (∀ (v:Value) (w1:World),w1.ownsRow w.heap.size 9 1 v (dA A 64).length (strs (dA A 64))->Below w.heap.size w w1->
   Calls prog 220 #[v,.string ⟨#[44]⟩] w1 λe w'=>e=.returned (.string ⟨(Lib.join (dA A 64) [44]).toArray⟩)/\Below w1.heap.size w1 w')) :
  Calls prog 176 #[.int .u64 A] w λe w'=>e=.returned (.string ⟨(Lib.join (dA A 64) [44]).toArray⟩)/\Below w.heap.size w w':=by
 obtain ⟨i0,hi,Hl,Hi,Hk⟩:=info_parts iC
 go_enter func176,ntmps176
 go_wp2
 go_loopw [3,4,6] (λv f i wr=>∃ k fN:Nat,k<=64/\fN<=64/\i=.int .i64 k/\f=.int .i64 fN/\Hid (∀ j,k=j+1->A.testBit j=true->fN=Ost.fL A j)/\wr.ownsRow w.heap.size 9 1 v (dA A k).length (strs (dA A k))/\Below w.heap.size w wr) (λ_ _ i _=>64 - (intOf i).toNat)
 case atStart=>exact ⟨0,0,by omega,by omega,rfl,rfl,by intro j hj;omega,Qw _ _ _ _,Q0 _ _⟩
 case round=>
  obtain ⟨k,fN,hk,Hm,rfl,rfl,HF,Ha,Hf⟩:=hrel
  by_cases hlt:k<64
  ·have hle:=tr A k;have Hj:=Hf.size;have e0:=pL A k hA
   rcases pD (A.testBit k) with hb|hb
   ·have H0:Hid (hasB A (k:Int)=true):=by unfold Hid;rw [e0,hb]
    -- where the run begins
    have HR:Hid ((hasB A ((k:Int) - 1)=true->fN=Ost.fL A k)/\(hasB A ((k:Int) - 1)=false->k=Ost.fL A k)):=by
     unfold Hid;cases k with
     | zero=>exact ⟨λh=>by simp [hasB] at h,λ_=>rfl⟩
     | succ j=>
      rw [show ((j+1:Nat):Int) - 1=(j:Int) by omega,pL A j hA];refine ⟨λh=>?_,λh=>?_⟩
      ·rw [Ost.fL,if_pos h];exact HF.out j rfl h
      ·rw [Ost.fL,if_neg (by rw [h];simp)]
    have e2:=pL A (k+1) hA;rw [show ((k+1:Nat):Int)=(k:Int)+1 by omega] at e2;have Ho:=AJ A k
    rcases pD (hasB A ((k:Int) - 1)) with hp|hp <;> rcases pD (A.testBit (k+1)) with hq|hq
    ·have HP:=qI' hp;have HQ:Hid (hasB A ((k:Int)+1)=true):=by unfold Hid;rw [e2,hq]
     have Hc:=qI' (HR.out.1 hp);have HS:=qI' (pM A k (.inr hq));clear hp hq hb e0 e2
     go_wp2_with fail
     refine (ji A _ _ hA H0.out).mono ?_;rintro e w' ⟨rfl,rfl⟩
     go_wp2_with fail
     refine (ji A _ _ hA HP.out).mono ?_;rintro e w' ⟨rfl,rfl⟩
     go_wp2_with fail
     refine (ji A _ _ hA HQ.out).mono ?_;rintro e w' ⟨rfl,rfl⟩
     go_wp2
     go_roundw
     case rel=>exact ⟨k+1,fN,by omega,by omega,by go_num,rfl,λj hj _=>(show k=j by omega) ▸ Hc.out,by rw [HS.out];exact Ha,Hf⟩
     case measure=>simp [intOf];omega
    ·have HP:=qI' hp;have HQ:Hid (hasB A ((k:Int)+1)=false):=by unfold Hid;rw [e2,hq]
     have Hc:=qI' (HR.out.1 hp);have HS:Hid (dA A (k+1)=dA A k++[Ost.cZ (fN,k)]):=by
      unfold Hid;rw [tt A k hb hq,<- Hc.out]
     have Hg:fN<64:=by have:=Hc.out;omega
     clear hp hq hb e0 e2
     go_wp2_with fail
     refine (ji A _ _ hA H0.out).mono ?_;rintro e w' ⟨rfl,rfl⟩
     go_wp2_with fail
     refine (ji A _ _ hA HP.out).mono ?_;rintro e w' ⟨rfl,rfl⟩
     go_wp2_with fail
     refine (lU A _ _ hA HQ.out).mono ?_;rintro e w' ⟨rfl,rfl⟩
     go_wp2_with fail
     refine (tm fN k _ Hg hlt).mono ?_;rintro e w' ⟨rfl,rfl⟩
     go_wp2_with (at_builtin;refine wpList_append_own _ rfl _ _ 78 rfl w.heap.size 9 i0 (.string ⟨#[]⟩) 1 16 underlying78 hi Hl Hi Hk rfl (by decide) _ _ _ rfl (Ha.alloc _) ⟨_,0,none⟩ 1 1 [.string ⟨(Ost.cZ (fN,k)).toArray⟩] rfl rfl (cell_one_new _ _ _) (jj [Ost.cZ (fN,k)]) (by unfold maxLen;omega) (by omega) (by simp;omega) ?_;intro v' w1 He Hb _)
     go_roundw
     case rel=>
      refine ⟨k+1,fN,by omega,by omega,by go_num,rfl,?_,?_,?_⟩
      ·intro j hj _;obtain rfl:k=j:=by omega
       exact Hc.out
      ·rw [HS.out,jV,Q2];exact He
      ·exact (Hf.alloc Hj _).grown Hb (by simp;omega) λj hj=>(Ha.lt j hj).1
     case measure=>simp [intOf];omega
    ·have HP:=qI' hp;have HQ:Hid (hasB A ((k:Int)+1)=true):=by unfold Hid;rw [e2,hq]
     have Hc:=qI' (HR.out.2 hp);have HS:=qI' (pM A k (.inr hq));clear hp hq hb e0 e2
     go_wp2_with fail
     refine (ji A _ _ hA H0.out).mono ?_;rintro e w' ⟨rfl,rfl⟩
     go_wp2_with fail
     refine (lU A _ _ hA HP.out).mono ?_;rintro e w' ⟨rfl,rfl⟩
     go_wp2_with fail
     refine (ji A _ _ hA HQ.out).mono ?_;rintro e w' ⟨rfl,rfl⟩
     go_wp2
     go_roundw
     case rel=>exact ⟨k+1,k,by omega,by omega,by go_num,rfl,λj hj _=>(show k=j by omega) ▸ Hc.out,by rw [HS.out];exact Ha,Hf⟩
     case measure=>simp [intOf];omega
    ·have HP:=qI' hp;have HQ:Hid (hasB A ((k:Int)+1)=false):=by unfold Hid;rw [e2,hq]
     have Hc:=qI' (HR.out.2 hp);have HS:Hid (dA A (k+1)=dA A k++[Ost.cZ (k,k)]):=by
      unfold Hid;rw [tt A k hb hq,<- Hc.out]
     have Hg:k<64:=by have:=Hc.out;omega
     clear hp hq hb e0 e2
     go_wp2_with fail
     refine (ji A _ _ hA H0.out).mono ?_;rintro e w' ⟨rfl,rfl⟩
     go_wp2_with fail
     refine (lU A _ _ hA HP.out).mono ?_;rintro e w' ⟨rfl,rfl⟩
     go_wp2_with fail
     refine (lU A _ _ hA HQ.out).mono ?_;rintro e w' ⟨rfl,rfl⟩
     go_wp2_with fail
     refine (tm k k _ Hg hlt).mono ?_;rintro e w' ⟨rfl,rfl⟩
     go_wp2_with (at_builtin;refine wpList_append_own _ rfl _ _ 78 rfl w.heap.size 9 i0 (.string ⟨#[]⟩) 1 16 underlying78 hi Hl Hi Hk rfl (by decide) _ _ _ rfl (Ha.alloc _) ⟨_,0,none⟩ 1 1 [.string ⟨(Ost.cZ (k,k)).toArray⟩] rfl rfl (cell_one_new _ _ _) (jj [Ost.cZ (k,k)]) (by unfold maxLen;omega) (by omega) (by simp;omega) ?_;intro v' w1 He Hb _)
     go_roundw
     case rel=>
      refine ⟨k+1,k,by omega,by omega,by go_num,rfl,?_,?_,?_⟩
      ·intro j hj _;obtain rfl:k=j:=by omega
       exact Hc.out
      ·rw [HS.out,jV,Q2];exact He
      ·exact (Hf.alloc Hj _).grown Hb (by simp;omega) λj hj=>(Ha.lt j hj).1
     case measure=>simp [intOf];omega
   ·have H0:Hid (hasB A (k:Int)=false):=by unfold Hid;rw [e0,hb]
    have HS:=qI' (pM A k (.inl hb));have HB:=qI' hb;clear hb e0
    go_wp2_with fail
    refine (lU A _ _ hA H0.out).mono ?_;rintro e w' ⟨rfl,rfl⟩
    go_wp2
    go_roundw
    case rel=>
     refine ⟨k+1,fN,by omega,Hm,by go_num,rfl,?_,by rw [HS.out];exact Ha,Hf⟩;intro j hj hb;obtain rfl:k=j:=by omega
     rw [HB.out] at hb;cases hb
    case measure=>simp [intOf];omega
  ·have Hh:k=64:=by omega
   subst Hh;clear hk hlt
   go_wp2_with fail
   refine (hJ.out _ _ Ha Hf).mono ?_;rintro e w2 ⟨rfl,Hn⟩
   go_wp2
   go_ret;exact ⟨rfl,Hf.trans (Hn.mono Hf.size)⟩
theorem kM {w:World} {base:Nat} {e:TypeId} {v:Value} {n:Nat} {xs:List Value} (h:w.ownsRow base e 1 v n xs) :
  (v=.slice none 0 0/\n=0)\/∃ g cap,v=.slice (some ⟨g,0,none⟩) n cap/\n<=cap/\g<w.heap.size/\∀ j x,xs[j]?=some x->w.cell? ⟨g,j,none⟩=some x:=by
 obtain ⟨hl,h⟩:=h
 rcases h with ⟨rfl,rfl⟩|⟨g,cap,cur,rfl,hb,hh,hn,hc,hs,ht⟩
 ·exact .inl ⟨rfl,rfl⟩
 ·refine .inr ⟨g,cap,rfl,hn,(gS hh).1,λj x hx=>?_⟩;have hj:j<n*1:=by rw [<- hl];exact (List.getElem?_eq_some_iff.1 hx).1
  rw [<- ht,List.getElem?_take,if_pos hj] at hx;simp only [World.cell?,hh]
  simpa using hx
theorem AL (v:Value) (xs:List (List UInt8)) (w:World) (base:Nat) (h:w.ownsRow base 9 1 v xs.length (strs xs)) (hn:xs.length<=100) (hl:(Lib.join xs [44]).length<=100000) :
  Calls prog 220 #[v,.string ⟨#[44]⟩] w λe w'=>e=.returned (.string ⟨(Lib.join xs [44]).toArray⟩)/\Below w.heap.size w w':=by
 rcases kM h with ⟨rfl,h0⟩|⟨g,cap,rfl,hc,hg,Ha⟩
 ·have:xs=[]:=Qe h0
  subst this;refine (Tryz.strings_Join_none none 0 ⟨#[44]⟩ w).mono ?_;rintro e w' ⟨rfl,rfl⟩;exact ⟨rfl,Q0 _ _⟩
 ·have hx:(xs.map λ(b:List UInt8)=>ByteArray.mk b.toArray).map (·.data.toList)=xs:=by
   rw [List.map_map];exact List.map_id'' (λ_=>rfl) xs
  have:=Tryz.strings_Join g 0 cap (xs.map λ(b:List UInt8)=>ByteArray.mk b.toArray) ⟨#[44]⟩ w (λj x hj=>by
   rw [Qd];apply Ha;unfold strs;rw [List.getElem?_map] at hj ⊢;obtain ⟨a,ha,rfl⟩:=Option.map_eq_some_iff.1 hj;rw [ha];rfl) hg (by simp;omega) (by simpa using hc) (by rw [hx];show (Lib.join xs [44]).length<=_;omega)
  rw [hx] at this
  simpa using this
end S1
namespace S1
open RowKit
def Left (l:List UInt8) (k acc:Nat):Prop:=Ost.lO l=Ost.pieces acc ((Ost.dL 44 l).drop k)
end S1
namespace S1
open RowKit
theorem pN (A:Nat) (w:World) (hA:A<18446744073709551616) :
  Calls prog 176 #[.int .u64 A] w λe w'=>e=.returned (.string ⟨(Ost.txt A).toArray⟩)/\Below w.heap.size w w':=
 AK A w hA λv w1 h _=>AL v (dA A 64) w1 w.heap.size h (Q5 (tr A 64) (by omega)) (Q5 (Ost.sY A) (by omega))
end S1
