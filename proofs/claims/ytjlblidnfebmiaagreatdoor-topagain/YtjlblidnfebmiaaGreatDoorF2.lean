import Derived.Test.YtjlblidnfebmiaaGreatDoorF1
import Derived.Test.YtjlblidnfebmiaaGreatDoorProg
import Derived.Test.YtjlblidnfebmiaaGreatDoorRows
import Derived.Lib.Join
import Derived.Shelf.Strings.Builder1
import Derived.Shelf.Strings.Builder2
import Derived.Shelf.Strings.OnBuilder
import Derived.Shelf.Small.Bits
import Derived.Shelf.Small.Strs
import Derived.Shelf.Small.Wraps
import Derived.Shelf.Strings.BuilderF
import Derived.Shelf.Strings.BuilderK
import Derived.Shelf.Strconv.Itoa0
import Derived.Shelf.Strconv.Itoa1
import Derived.Shelf.LaysM
import Derived.Shelf.Strconv.Itoa2
import Derived.Shelf.Strconv.Itoa3
import Derived.Shelf.Strings.Search1
import Derived.Shelf.Strings.Search2
import Derived.Shelf.Strings.Search3
import Derived.Shelf.Strings.Cut
import Derived.Shelf.Strings.Count
import Derived.Shelf.Strings.Shaped
import Derived.Shelf.Sort.Plain
import Derived.Shelf.Strings.LastIndex
import Derived.Shelf.Strings.LastIndexAll
import Derived.Shelf.Strings.Prefix
import Derived.Shelf.Strings.Split
import Derived.Shelf.Strings.SplitShaped
import Derived.Shelf.Unicode.Decode
import Derived.Shelf.Strings.RuneCount
import Derived.Shelf.Strings.Explode
import Derived.Shelf.Slices.Equal
import Derived.Ground.Names2Prog
import Derived.Shelf.Slices.Clone
import Derived.Shelf.Slices.In.SortNone
import Derived.Shelf.Slices.Empties2
import Derived.Ground.SlgnProg
import Derived.Shelf.SlicesE.Clone
import Derived.Ground.SlsfProg
import Derived.Shelf.SlSortCmp.Insertion
import Derived.Shelf.SlSortCmp.SiftDown1
import Derived.Shelf.SlSortCmp.HeapSort1
import Derived.Shelf.SlSortCmp.Insertion1
import Derived.Shelf.SlSortCmp.Median1
import Derived.Shelf.SlSortCmp.Pivot1
import Derived.Shelf.SlSortCmp.ReverseRange1
import Derived.Shelf.SlSortCmp.PartialInsertion1
import Derived.Shelf.SlSortCmp.PartitionEqual1
import Derived.Shelf.SlSortCmp.Partition1
import Derived.Shelf.SlSortCmp.Pdq1
import Derived.Shelf.SlSortCmp.Whole1
import Derived.Shelf.SlSortCmp.NoneTotal
import Derived.Ground.PaProg
import Derived.Shelf.Path.Small
import Derived.WalkSpells
import Derived.WalkLawsBesides
import Derived.Deep.QuietTactic
import Derived.BigQuiet
set_option maxRecDepth 100000
set_option maxHeartbeats 16000000
open Go Go.RowKit Go.Shelf
open Go.Proofs.Tryz
namespace Go.Proofs.YtjlblidnfebmiaaGreatDoor
def bf (A k:Nat):List Nat:=(List.range k).filter (A.testBit ·)
theorem nu(A k:Nat):bf A (k+1)=if A.testBit k then bf A k++[k] else bf A k:=by
 unfold bf;rw[List.range_succ,List.filter_append]
 by_cases h:A.testBit k <;> simp[h]
def gq (A:Nat):Nat->Nat
 | 0=>0
 | n+1=>if A.testBit n then gq A n else n+1
def eV (A:Nat):Nat->List (Nat × Nat)
 | 0=>[]
 | k+1=>if A.testBit k && !A.testBit (k+1) then eV A k++[(gq A k,k)] else eV A k
def cY (p:Nat × Nat):List UInt8:=if p.1=p.2 then Lib.decDigits p.1 else Lib.decDigits p.1++[45]++Lib.decDigits p.2
def jM (l:List (Nat × Nat)):List UInt8:=Lib.join (l.map cY) [44]
theorem uR(c:List (List UInt8))(x sep:List UInt8):Lib.join (c++[x]) sep=if c=[] then x else Lib.join c sep++sep++x:=by
 unfold Lib.join
 induction c with
 | nil=>simp[List.intercalate]
 | cons a r ih=>
  simp only[List.cons_append,reduceCtorEq,if_false];cases r with
  | nil=>simp[List.intercalate]
  | cons b t=>
   simp only[List.cons_append,reduceCtorEq,if_false] at ih;have d:sep.intercalate (a :: b :: (t++[x]))=a++sep++sep.intercalate (b :: (t++[x])):=by simp[List.intercalate,List.intersperse]
   have e:sep.intercalate (a :: b :: t)=a++sep++sep.intercalate (b :: t):=by simp[List.intercalate,List.intersperse]
   rw[List.cons_append,d,e,ih]
   simp
theorem Gi(n:Nat):Lib.decDigits n≠[]:=by
 intro h
 have:=Lib.decDigits_length n
 rw[h] at this
 have:=Lib.nDigits_pos n
 simp at *
 omega
theorem Gj(p:Nat × Nat):cY p≠[]:=by
 unfold cY
 split
 ·exact Gi _
 ·simp
theorem yT(l:List (Nat × Nat)):jM l=[]↔l=[]:=by
 constructor
 ·intro h;cases l with
  | nil=>rfl
  | cons a r=>
   exfalso
   unfold jM at h;cases r with
   | nil=>simp[Lib.join,List.intercalate] at h;exact Gj a h
   | cons b t=>simp[Lib.join,List.intercalate] at h
 ·rintro rfl;rfl
theorem Gk(l:List (Nat × Nat))(p:Nat × Nat):jM (l++[p])=if jM l=[] then cY p else jM l++[44]++cY p:=by
 unfold jM;rw[Qj,Qq,List.map_nil,uR]
 by_cases h:l=[]
 ·subst h;simp[Lib.join,List.intercalate]
 ·rw[if_neg (by simpa using h),if_neg];intro e;exact h ((yT l).1 e)
structure ah where
 core:Int
 sock:Int
 node:Int
deriving DecidableEq
def av:ah:=⟨0,0,0⟩
def cG (p:ah->Bool) (l:List ah):Nat->Nat
 | 0=>0
 | k+1=>if p (l.getD k av) then cG p l k ||| 2 ^ k else cG p l k
theorem qe{p:ah->Bool}{l:List ah}{k:Nat}(h:p (l.getD k av)=true):cG p l (k+1)=cG p l k ||| 2 ^ k:=by rw[cG,if_pos h]
theorem qg{p:ah->Bool}{l:List ah}{k:Nat}(h:p (l.getD k av)=false):cG p l (k+1)=cG p l k:=by rw[cG,if_neg (by rw[h];simp)]
def az (p:ah->Bool) (l:List ah):Nat:=cG p l l.length
theorem yU(p:ah->Bool)(l:List ah)(k i:Nat):(cG p l k).testBit i=(decide (i<k) && p (l.getD i av)):=by induction k <;> grind[cG,av,qe,qg]
theorem jN(p:ah->Bool)(l:List ah)(k:Nat)(a:k<=64):cG p l k<18446744073709551616:=by
 apply Nat.lt_pow_two_of_testBit (n:=64);intro i hi;rw[yU]
 simp[show ¬ i<k by omega]
theorem uS(p:ah->Bool)(l:List ah)(i:Nat):(az p l).testBit i=(decide (i<l.length) && p (l.getD i av)):=yU p l _ i
theorem Gl(A k:Nat):2*(eV A k).length<=k+1/\(A.testBit k=true->2*(eV A k).length<=k):=by induction k <;> grind[eV]
theorem Gm(n:Nat)(h:n<100):(Lib.decDigits n).length<=2:=uQ 1 n (by omega)
theorem Gn(f l:Nat)(hf:f<64)(a:l<64):(cY (f,l)).length<=5:=by grind[Gm,cY]
theorem yV(A k:Nat):gq A k<=k:=by induction k <;> grind[gq]
theorem yW(A k:Nat)(p:Nat × Nat)(h:p∈eV A k):p.1<=p.2/\p.2<k:=by induction k <;> grind[eV,yV]
theorem Gp(l:List (Nat × Nat))(h:∀p∈l,p.1<=p.2/\p.2<64):(jM l).length<=6*l.length:=by
 have key_Ost:∀r:List (Nat × Nat),(∀p∈r.reverse,p.1<=p.2/\p.2<64)->(jM r.reverse).length<=6*r.reverse.length:=by
  intro r
  induction r with
  | nil=>intro _;simp[jM,Lib.join,List.intercalate]
  | cons p r ih=>
   intro a;rw[List.reverse_cons] at a ⊢;have d:=ih λq b=>a q (Qi.2 (.inl b));have e:=a p (Qi.2 (.inr (by simp)));have c:(cY p).length<=5:=Gn p.1 p.2 (by omega) (by omega);rw[Gk,Q2]
   split
   ·simp only[Qg,List.length_nil];omega
   ·rw[Q2,Q2];simp only[Qg,List.length_nil];omega
 have:=key_Ost l.reverse (by simpa using h)
 simpa using this
def iO (A:Nat):List UInt8:=jM (eV A 64)
theorem uT(A:Nat):(iO A).length<=300:=by
 have b:=Gp (eV A 64) λp a=>yW A 64 p a;have c:=(Gl A 64).1;unfold iO;omega
def aH (c:UInt8):List UInt8->List (List UInt8)
 | []=>[[]]
 | b :: r=>if b=c then [] :: aH c r else
  match aH c r with
  | []=>[[b]]
  | x :: xs=>(b :: x) :: xs
theorem nw(c:UInt8)(l:List UInt8):aH c l≠[]:=by unfold aH;grind
theorem sj(c:UInt8)(l:List UInt8)(h:c ∉ l):aH c l=[l]:=by induction l <;> grind[aH]
theorem qh(c:UInt8)(l r:List UInt8)(h:c ∉ l):aH c (l++c :: r)=l :: aH c r:=by induction l <;> grind[aH]
theorem uU(c:UInt8)(d:List (List UInt8))(h:∀x∈d,c ∉ x)(f:d≠[]):aH c (Lib.join d [c])=d:=by
 induction d with
 | nil=>exact absurd rfl f
 | cons a r ih=>
  cases r with
  | nil=>simp[Lib.join,List.intercalate];exact sj c a (h a (by simp))
  | cons b t=>
   have e:Lib.join (a :: b :: t) [c]=a++c :: Lib.join (b :: t) [c]:=by simp[Lib.join,List.intercalate,List.intersperse]
   rw[e,qh c _ _ (h a (by simp)),ih (λx g=>h x (by simp at g ⊢;exact .inr g)) (by simp)]
def iq (t:List UInt8):Option (Int × Int):=
 if (aT 45 t).2.2 then
  (if (cT 19 (aT 45 t).1 && cT 19 (aT 45 t).2.1 && decide (bM (aT 45 t).1<=bM (aT 45 t).2.1)) then some (bM (aT 45 t).1,bM (aT 45 t).2.1) else none)
 else if cT 19 (aT 45 t).1 then some (bM (aT 45 t).1,bM (aT 45 t).1) else none
def gr (f:Nat):Nat->Nat
 | 0=>0
 | m+1=>gr f m ||| 2 ^ (f+m)
def lY (acc:Nat):List (List UInt8)->Nat × Int
 | []=>(acc,0)
 | t :: r=>match iq t with
  | none=>(0,4)
  | some (f,l)=>if 63<l then (0,1) else lY (acc ||| gr f.toNat (l - f+1).toNat) r
def dM (l:List UInt8):Nat × Int:=if 300<l.length then (0,2) else if l=[] then (0,0) else lY 0 (aH 44 l)
theorem oO(n:Nat)(c:UInt8)(b:fL c=false):c ∉ Lib.decDigits n:=by
 intro a
 have:=List.all_eq_true.1 (qd n).1 c a
 rw[b] at this;cases this
theorem uV(n:Nat)(h:n<64):cT 19 (Lib.decDigits n)=true:=by
 have d:=Gh n 1 (by omega) (by omega);obtain⟨a,b,c⟩:=(nr _ _).1 d;exact (nr _ _).2 ⟨a,Int.le_trans b (by omega),c⟩
theorem yX(c:UInt8)(l r:List UInt8)(h:c ∉ l):aT c (l++c :: r)=(l,r,true):=by induction l <;> grind[aT]
theorem Gq(c:UInt8)(l:List UInt8)(h:c ∉ l):aT c l=(l,[],false):=by induction l <;> grind[aT]
theorem Gr(f l:Nat)(h:f<=l)(b:l<64):iq (cY (f,l))=some ((f:Int),(l:Int)):=by
 have a:bM (Lib.decDigits f)=f:=(qd f).2;have v2:bM (Lib.decDigits l)=l:=(qd l).2;unfold cY
 by_cases e:f=l
 ·subst e;rw[if_pos rfl];unfold iq;rw[Gq 45 _ (oO f 45 (by decide)),uV f b,a];simp
 ·rw[if_neg e];unfold iq;rw[List.append_assoc,List.singleton_append,yX 45 _ _ (oO f 45 (by decide)),uV f (by omega),uV l b,a,v2]
  have:(f:Int)<=l:=by omega
  simp[this]
theorem Gs(f m i:Nat):(gr f m).testBit i=decide (f<=i/\i<f+m):=by induction m <;> grind[gr]
def so (acc:Nat) (l:List (Nat × Nat)):Nat:=l.foldl (λs p=>s ||| gr p.1 (p.2 - p.1+1)) acc
theorem Gt(l:List (Nat × Nat))(h:∀p∈l,p.1<=p.2/\p.2<64)(a:Nat):lY a (l.map cY)=(so a l,0):=by
 induction l generalizing a with
 | nil=>rfl
 | cons p r ih=>
  have b:=h p (by simp);rw[Qq,lY,show cY p=cY (p.1,p.2) from rfl,Gr p.1 p.2 b.1 b.2]
  simp only
  rw[if_neg (by omega),ih λq c=>h q (by simp[c])];rw[show ((p.1:Nat):Int).toNat=p.1 by omega,show (((p.2:Nat):Int) - (p.1:Nat)+1).toNat=p.2 - p.1+1 by omega];rfl
theorem Gu(A k i:Nat)(c:A.testBit k=true)(a:gq A k<=i)(b:i<=k):A.testBit i=true:=by induction k <;> grind[gq]
theorem Gv(A k i:Nat):(so 0 (eV A k)).testBit i=(A.testBit i && decide (i<if A.testBit k then gq A k else k)):=by induction k <;> grind[gq,eV,so,gr,Gs,yV,Gu]
theorem yY(A:Nat)(a:A<18446744073709551616)(i:Nat)(h:64<=i):A.testBit i=false:=
 Nat.testBit_lt_two_pow (Q1 a (Nat.pow_le_pow_right (n:=2) (by omega) h))
theorem yZ(A:Nat)(a:A<18446744073709551616):so 0 (eV A 64)=A:=by
 apply Nat.eq_of_testBit_eq;intro i;rw[Gv,yY A a 64 (lR)]
 by_cases h:i<64
 ·rw[Qc (by simpa using h),Bool.and_true]
 ·rw[yY A a i (by omega)];rfl
theorem Gw(A:Nat)(b:A<18446744073709551616):dM (iO A)=(A,0):=by
 unfold dM;have h:=uT A;rw[if_neg (by omega)]
 by_cases a:eV A 64=[]
 ·have g:iO A=[]:=by unfold iO;rw[a];rfl
  rw[if_pos g]
  have:=yZ A b
  rw[a] at this;rw[<- this];rfl
 ·have Ha:iO A≠[]:=λe=>a ((yT _).1 e)
  rw[if_neg Ha];have hs:aH 44 (iO A)=(eV A 64).map cY:=by
   refine uU 44 _ ?_ (by simpa using a);intro x f;obtain⟨p,_,rfl⟩:=Qk.1 f;unfold cY;have d:=λn=>oO n 44 (by decide)
   split
   ·exact d _
   ·simp;exact⟨d _,d _⟩
  rw[hs,Gt _ λp c=>yW A 64 p c,yZ A b]
end Go.Proofs.YtjlblidnfebmiaaGreatDoor
namespace Go.Proofs
open Go.Shelf
def lays169_ren:Go.Shelf.Ren:=⟨fun|169=>141|n=>n,fun|70=>242|9=>9|0=>0|72=>245|37=>243|127=>294|3=>3|5=>5|n=>n,fun|n=>n⟩
theorem lays169:Go.Proofs.Lays.n169 prog lays169_ren:={
 mixed:=by kernel_rfl
 f169:=func141.trans (congrArg some (by kernel_rfl))
 t0:=underlying0
 a0:=isAgg0
 z0:=sizeOf0
 v0:=zeroValue0
 t3:=underlying3
 a3:=isAgg3
 z3:=sizeOf3
 v3:=zeroValue3
 t9:=underlying9
 a9:=isAgg9
 z9:=sizeOf9
 v9:=zeroValue9
 t37:=underlying243
 a37:=isAgg243
 z37:=sizeOf243
 v37:=zeroValue243
 t70:=underlying242
 a70:=isAgg242
 z70:=sizeOf242
 v70:=zeroValue242
 t72:=underlying245
 a72:=isAgg245
 z72:=sizeOf245
 v72:=zeroValue245
 t127:=underlying294
 a127:=isAgg294
 z127:=sizeOf294
 v127:=zeroValue294 }
theorem Tryz.Builder_Extra_169:Builder.Extra prog lays169_ren:={
 sizeBuilder:=by kernel_rfl
 liesBuilder:=by kernel_rfl
 t5:=underlying5
 a5:=isAgg5
 z5:=sizeOf5
 v5:=zeroValue5
 infoByte:=by kernel_rfl
 cellsByte:=by kernel_rfl
 sizeByte:=by kernel_rfl
 neB5:=by decide }
def lays156_ren:Go.Shelf.Ren:=⟨fun|156=>227|165=>270|166=>137|169=>141|240=>175|241=>293|276=>226|277=>315|n=>n,fun|31=>105|9=>9|3=>3|4=>4|0=>0|20=>20|72=>245|76=>246|70=>242|37=>243|75=>40|127=>294|164=>334|5=>5|80=>251|n=>n,fun|n=>n⟩
theorem lays156:Go.Proofs.Lays.n156 prog lays156_ren:={
 mixed:=by kernel_rfl
 f156:=func227.trans (congrArg some (by kernel_rfl))
 f165:=func270.trans (congrArg some (by kernel_rfl))
 f166:=func137.trans (congrArg some (by kernel_rfl))
 f169:=func141.trans (congrArg some (by kernel_rfl))
 f240:=func175.trans (congrArg some (by kernel_rfl))
 f241:=func293.trans (congrArg some (by kernel_rfl))
 f276:=func226.trans (congrArg some (by kernel_rfl))
 f277:=func315.trans (congrArg some (by kernel_rfl))
 t0:=underlying0
 a0:=isAgg0
 z0:=sizeOf0
 v0:=zeroValue0
 t3:=underlying3
 a3:=isAgg3
 z3:=sizeOf3
 v3:=zeroValue3
 t4:=underlying4
 a4:=isAgg4
 z4:=sizeOf4
 v4:=zeroValue4
 t9:=underlying9
 a9:=isAgg9
 z9:=sizeOf9
 v9:=zeroValue9
 t20:=underlying20
 a20:=isAgg20
 z20:=sizeOf20
 v20:=zeroValue20
 t31:=underlying105
 a31:=isAgg105
 z31:=sizeOf105
 v31:=zeroValue105
 t37:=underlying243
 a37:=isAgg243
 z37:=sizeOf243
 v37:=zeroValue243
 t70:=underlying242
 a70:=isAgg242
 z70:=sizeOf242
 v70:=zeroValue242
 t72:=underlying245
 a72:=isAgg245
 z72:=sizeOf245
 v72:=zeroValue245
 t75:=underlying40
 a75:=isAgg40
 z75:=sizeOf40
 v75:=zeroValue40
 t76:=underlying246
 a76:=isAgg246
 z76:=sizeOf246
 v76:=zeroValue246
 t127:=underlying294
 a127:=isAgg294
 z127:=sizeOf294
 v127:=zeroValue294
 t164:=underlying334
 a164:=isAgg334
 z164:=sizeOf334
 v164:=zeroValue334 }
theorem Tryz.Builder_Extra_156:Builder.Extra prog lays156_ren:={
 sizeBuilder:=by kernel_rfl
 liesBuilder:=by kernel_rfl
 t5:=underlying5
 a5:=isAgg5
 z5:=sizeOf5
 v5:=zeroValue5
 infoByte:=by kernel_rfl
 cellsByte:=by kernel_rfl
 sizeByte:=by kernel_rfl
 neB5:=by decide }
open RowKit in
theorem Tryz.strings_Join_none(a:Option Addr)(c:Nat)(sep:ByteArray)(w:World) :
  Calls prog 227 #[.slice a 0 c,sep] w λe w'=>e=.returned (.string ⟨#[]⟩)/\w'=w:=Any.strings_Join_none lays156 Tryz.Builder_Extra_156 a c sep w
open RowKit in
theorem Tryz.strings_Join(g o c:Nat)(b:List ByteArray)(sep:ByteArray)(w:World)(a:∀(j:Nat) x,b[j]?=some x->w.cell? ⟨g,o+j,none⟩=some (.string x))(h:g<w)(i:b.length<=140737488355328)(d:b.length<=c)(f:(Lib.join (b.map (·.data.toList)) sep.data.toList).length<=140737488355328) :
  Calls prog 227 #[.slice (some ⟨g,o,none⟩) b.length c,sep] w λe w'=>e=.returned (.string ⟨(Lib.join (b.map (·.data.toList)) sep.data.toList).toArray⟩)/\Below w w w':=Any.strings_Join lays156 Tryz.Builder_Extra_156 g o c b sep w a h i d f
def lays137_ren:Go.Shelf.Ren:=⟨fun|137=>244|217=>280|266=>299|n=>n,fun|9=>9|5=>5|3=>3|n=>n,fun|n=>n⟩
theorem lays137:Go.Proofs.Lays.n137 prog lays137_ren:={
 mixed:=by kernel_rfl
 f137:=func244.trans (congrArg some (by kernel_rfl))
 f217:=func280.trans (congrArg some (by kernel_rfl))
 f266:=func299.trans (congrArg some (by kernel_rfl))
 t3:=underlying3
 a3:=isAgg3
 z3:=sizeOf3
 v3:=zeroValue3
 t5:=underlying5
 a5:=isAgg5
 z5:=sizeOf5
 v5:=zeroValue5
 t9:=underlying9
 a9:=isAgg9
 z9:=sizeOf9
 v9:=zeroValue9 }
open RowKit in
theorem Tryz.strings_IndexByte(s:ByteArray)(c:Int)(w:World) :
  Calls prog 244 #[s,.int .u8 c] w λe w'=>e=.returned (Lib.indexByte s.data.toList c.toNat.toUInt8:Int)/\w'=w:=Any.strings_IndexByte lays137 s c w
open RowKit in
theorem Tryz.Builder_String_any_k(B b:Nat)(l:List UInt8)(w:World)(h:Lib.IsBuilderF 245 5 B b (Lib.byteCells l) w)(a:B<=w) :
  Calls prog 141 #[b] w λe w'=>e=.returned (.string ⟨l.toArray⟩)/\(Lib.IsBuilderF 245 5 B b (Lib.byteCells l) w'/\Below B w w'/\Lib.OthersKept 5 (some b) w w'):=Any.Builder_String_any_k lays169 Tryz.Builder_Extra_169 B b l w h a
def lays283_ren:Go.Shelf.Ren:=⟨fun|283=>272|n=>n,fun|3=>3|9=>9|4=>4|n=>n,fun|n=>n⟩
theorem lays283:Go.Proofs.Lays.n283 prog lays283_ren:={
 mixed:=by kernel_rfl
 f283:=func272.trans (congrArg some (by kernel_rfl))
 t3:=underlying3
 a3:=isAgg3
 z3:=sizeOf3
 v3:=zeroValue3
 t4:=underlying4
 a4:=isAgg4
 z4:=sizeOf4
 v4:=zeroValue4
 t9:=underlying9
 a9:=isAgg9
 z9:=sizeOf9
 v9:=zeroValue9 }
open Go.Lib in
theorem Tryz.internal_strconv_small(i:Nat)(h:i<100)(w:World) :
  Calls prog 272 #[(i:Int)] w λe w'=>e=.returned (.string ⟨(Lib.decDigits i).toArray⟩)/\w'=w:=Any.internal_strconv_small lays283 i h w
def laysM284_ren:Go.Shelf.Ren:=⟨fun|284=>273|129=>203|317=>294|318=>295|n=>n,fun|53=>23|3=>3|212=>396|0=>0|4=>4|46=>219|5=>5|9=>9|n=>n,fun|17=>1|n=>n⟩
theorem laysM284:Go.Proofs.LaysM.n284 prog laysM284_ren:={
 mixed:=by kernel_rfl
 f129:=func203.trans (congrArg some (by kernel_rfl))
 f284:=func273.trans (congrArg some (by kernel_rfl))
 f317:=func294.trans (congrArg some (by kernel_rfl))
 f318:=func295.trans (congrArg some (by kernel_rfl))
 t0:=underlying0
 a0:=isAgg0
 z0:=sizeOf0
 v0:=zeroValue0
 t3:=underlying3
 a3:=isAgg3
 z3:=sizeOf3
 v3:=zeroValue3
 t4:=underlying4
 a4:=isAgg4
 z4:=sizeOf4
 v4:=zeroValue4
 t5:=underlying5
 a5:=isAgg5
 z5:=sizeOf5
 v5:=zeroValue5
 t9:=underlying9
 a9:=isAgg9
 z9:=sizeOf9
 v9:=zeroValue9
 t46:=underlying219
 a46:=isAgg219
 z46:=sizeOf219
 v46:=zeroValue219
 t53:=underlying23
 a53:=isAgg23
 z53:=sizeOf23
 v53:=zeroValue23
 t212:=underlying396
 a212:=isAgg396
 z212:=sizeOf396
 v212:=zeroValue396
 g17:=by kernel_rfl
 i0:=by kernel_rfl
 i3:=by kernel_rfl
 i4:=by kernel_rfl
 i5:=by kernel_rfl
 i9:=by kernel_rfl
 i46:=by kernel_rfl
 i53:=by kernel_rfl
 i212:=by kernel_rfl
 m17:=by kernel_rfl }
open Go.Lib in
theorem Tryz.internal_strconv_numDigits(u : Nat)(h1 : 1 ≤ u)(h2 : u < 18446744073709551616)(w : World)(htab : Lib.TabIs prog w "internal/strconv.uint64pow10" .u64 Lib.pow10Tab) :
  Calls prog 273 #[.int .u64 u] w λe w'=>e=.returned (Lib.nDigits u:Int)/\w'=w:=Any.internal_strconv_numDigits laysM284 u h1 h2 w htab
def lays285_ren:Go.Shelf.Ren:=⟨fun|285=>274|n=>n,fun|37=>243|53=>23|3=>3|4=>4|51=>296|9=>9|5=>5|0=>0|n=>n,fun|n=>n⟩
theorem lays285:Go.Proofs.Lays.n285 prog lays285_ren:={
 mixed:=by kernel_rfl
 f285:=func274.trans (congrArg some (by kernel_rfl))
 t0:=underlying0
 a0:=isAgg0
 z0:=sizeOf0
 v0:=zeroValue0
 t3:=underlying3
 a3:=isAgg3
 z3:=sizeOf3
 v3:=zeroValue3
 t4:=underlying4
 a4:=isAgg4
 z4:=sizeOf4
 v4:=zeroValue4
 t5:=underlying5
 a5:=isAgg5
 z5:=sizeOf5
 v5:=zeroValue5
 t9:=underlying9
 a9:=isAgg9
 z9:=sizeOf9
 v9:=zeroValue9
 t37:=underlying243
 a37:=isAgg243
 z37:=sizeOf243
 v37:=zeroValue243
 t51:=underlying296
 a51:=isAgg296
 z51:=sizeOf296
 v51:=zeroValue296
 t53:=underlying23
 a53:=isAgg23
 z53:=sizeOf23
 v53:=zeroValue23 }
open RowKit Go.Sort Go.Lib in
theorem Tryz.internal_strconv_formatBase10(blk off c:Nat)(u:Nat)(d:Array UInt8)(w:World)(j:Holds (λ(b:UInt8)=>Value.int .u8 (b.toNat:Int)) w blk off d)(i:u<10 ^ d.size)(a:u<18446744073709551616)(f:d.size<4611686018427387904) :
  Calls prog 274 #[.slice (some ⟨blk,off,none⟩) d.size c,.int .u64 u] w λe w'=>
   e=.returned (.tuple #[])/\∃(n h:Nat) (g:Array UInt8),w'=(putRow (λ(b:UInt8)=>Value.int .u8 (b.toNat:Int)) w blk off g).drewN n/\FmtInv d.size u 0 h g:=Any.internal_strconv_formatBase10 lays285 blk off c u d w j i a f
def laysM246_ren:Go.Shelf.Ren:=⟨fun|246=>271|283=>272|284=>273|285=>274|286=>275|129=>203|317=>294|318=>295|319=>296|320=>297|337=>316|338=>317|n=>n,fun|2=>2|3=>3|9=>9|4=>4|171=>373|0=>0|53=>23|37=>243|5=>5|173=>375|212=>396|51=>296|20=>20|213=>397|46=>219|232=>413|233=>414|n=>n,fun|17=>1|18=>2|19=>3|n=>n⟩
def laysM243_ren:Go.Shelf.Ren:=⟨fun|243=>228|246=>271|283=>272|284=>273|285=>274|286=>275|129=>203|317=>294|318=>295|319=>296|320=>297|337=>316|338=>317|n=>n,fun|3=>3|9=>9|2=>2|4=>4|171=>373|0=>0|53=>23|37=>243|5=>5|173=>375|212=>396|51=>296|20=>20|213=>397|46=>219|232=>413|233=>414|n=>n,fun|17=>1|18=>2|19=>3|n=>n⟩
def laysM171_ren:Go.Shelf.Ren:=⟨fun|171=>177|243=>228|246=>271|283=>272|284=>273|285=>274|286=>275|129=>203|317=>294|318=>295|319=>296|320=>297|337=>316|338=>317|n=>n,fun|3=>3|9=>9|2=>2|4=>4|171=>373|0=>0|53=>23|37=>243|5=>5|173=>375|212=>396|51=>296|20=>20|213=>397|46=>219|232=>413|233=>414|n=>n,fun|17=>1|18=>2|19=>3|n=>n⟩
theorem laysM171:Go.Proofs.LaysM.n171 prog laysM171_ren:={
 mixed:=by kernel_rfl
 f129:=func203.trans (congrArg some (by kernel_rfl))
 f171:=func177.trans (congrArg some (by kernel_rfl))
 f243:=func228.trans (congrArg some (by kernel_rfl))
 f246:=func271.trans (congrArg some (by kernel_rfl))
 f283:=func272.trans (congrArg some (by kernel_rfl))
 f284:=func273.trans (congrArg some (by kernel_rfl))
 f285:=func274.trans (congrArg some (by kernel_rfl))
 f286:=func275.trans (congrArg some (by kernel_rfl))
 f317:=func294.trans (congrArg some (by kernel_rfl))
 f318:=func295.trans (congrArg some (by kernel_rfl))
 f319:=func296.trans (congrArg some (by kernel_rfl))
 f320:=func297.trans (congrArg some (by kernel_rfl))
 f337:=func316.trans (congrArg some (by kernel_rfl))
 f338:=func317.trans (congrArg some (by kernel_rfl))
 t0:=underlying0
 a0:=isAgg0
 z0:=sizeOf0
 v0:=zeroValue0
 t2:=underlying2
 a2:=isAgg2
 z2:=sizeOf2
 v2:=zeroValue2
 t3:=underlying3
 a3:=isAgg3
 z3:=sizeOf3
 v3:=zeroValue3
 t4:=underlying4
 a4:=isAgg4
 z4:=sizeOf4
 v4:=zeroValue4
 t5:=underlying5
 a5:=isAgg5
 z5:=sizeOf5
 v5:=zeroValue5
 t9:=underlying9
 a9:=isAgg9
 z9:=sizeOf9
 v9:=zeroValue9
 t20:=underlying20
 a20:=isAgg20
 z20:=sizeOf20
 v20:=zeroValue20
 t37:=underlying243
 a37:=isAgg243
 z37:=sizeOf243
 v37:=zeroValue243
 t46:=underlying219
 a46:=isAgg219
 z46:=sizeOf219
 v46:=zeroValue219
 t51:=underlying296
 a51:=isAgg296
 z51:=sizeOf296
 v51:=zeroValue296
 t53:=underlying23
 a53:=isAgg23
 z53:=sizeOf23
 v53:=zeroValue23
 t171:=underlying373
 a171:=isAgg373
 z171:=sizeOf373
 v171:=zeroValue373
 t173:=underlying375
 a173:=isAgg375
 z173:=sizeOf375
 v173:=zeroValue375
 t212:=underlying396
 a212:=isAgg396
 z212:=sizeOf396
 v212:=zeroValue396
 t213:=underlying397
 a213:=isAgg397
 z213:=sizeOf397
 t232:=underlying413
 a232:=isAgg413
 z232:=sizeOf413
 v232:=zeroValue413
 t233:=underlying414
 a233:=isAgg414
 z233:=sizeOf414
 v233:=zeroValue414
 g17:=by kernel_rfl
 g18:=by kernel_rfl
 g19:=by kernel_rfl
 i0:=by kernel_rfl
 i2:=by kernel_rfl
 i3:=by kernel_rfl
 i4:=by kernel_rfl
 i5:=by kernel_rfl
 i9:=by kernel_rfl
 i20:=by kernel_rfl
 i37:=by kernel_rfl
 i46:=by kernel_rfl
 i51:=by kernel_rfl
 i53:=by kernel_rfl
 i171:=by kernel_rfl
 i173:=by kernel_rfl
 i212:=by kernel_rfl
 i232:=by kernel_rfl
 i233:=by kernel_rfl
 m17:=by kernel_rfl
 m18:=by kernel_rfl
 m19:=by kernel_rfl }
open RowKit Go.Sort Go.Lib in
theorem Tryz.strconv_Itoa(n : Int)(h0 : -9223372036854775808 ≤ n)(h1 : n ≤ 9223372036854775807)(w : World)(htab : Lib.TabIs prog w "internal/strconv.uint64pow10" .u64 Lib.pow10Tab) :
  Calls prog 177 #[(n:Int)] w λe w'=>e=.returned (.string ⟨(Lib.itoa n).toArray⟩)/\∃k os,w'=grow (w.drewN k) os:=Any.strconv_Itoa laysM171 n h0 h1 w htab
def lays171_ren:Go.Shelf.Ren:=⟨fun|171=>177|243=>228|246=>271|283=>272|284=>273|285=>274|286=>275|129=>203|317=>294|318=>295|319=>296|320=>297|337=>316|338=>317|n=>n,fun|3=>3|9=>9|2=>2|4=>4|171=>373|0=>0|53=>23|37=>243|5=>5|173=>375|212=>396|51=>296|20=>20|213=>397|46=>219|232=>413|233=>414|n=>n,fun|17=>1|18=>2|19=>3|n=>n⟩
theorem lays171:Go.Proofs.Lays.n171 prog lays171_ren:={
 mixed:=by kernel_rfl
 f129:=func203.trans (congrArg some (by kernel_rfl))
 f171:=func177.trans (congrArg some (by kernel_rfl))
 f243:=func228.trans (congrArg some (by kernel_rfl))
 f246:=func271.trans (congrArg some (by kernel_rfl))
 f283:=func272.trans (congrArg some (by kernel_rfl))
 f284:=func273.trans (congrArg some (by kernel_rfl))
 f285:=func274.trans (congrArg some (by kernel_rfl))
 f286:=func275.trans (congrArg some (by kernel_rfl))
 f317:=func294.trans (congrArg some (by kernel_rfl))
 f318:=func295.trans (congrArg some (by kernel_rfl))
 f319:=func296.trans (congrArg some (by kernel_rfl))
 f320:=func297.trans (congrArg some (by kernel_rfl))
 f337:=func316.trans (congrArg some (by kernel_rfl))
 f338:=func317.trans (congrArg some (by kernel_rfl))
 t0:=underlying0
 a0:=isAgg0
 z0:=sizeOf0
 v0:=zeroValue0
 t2:=underlying2
 a2:=isAgg2
 z2:=sizeOf2
 v2:=zeroValue2
 t3:=underlying3
 a3:=isAgg3
 z3:=sizeOf3
 v3:=zeroValue3
 t4:=underlying4
 a4:=isAgg4
 z4:=sizeOf4
 v4:=zeroValue4
 t5:=underlying5
 a5:=isAgg5
 z5:=sizeOf5
 v5:=zeroValue5
 t9:=underlying9
 a9:=isAgg9
 z9:=sizeOf9
 v9:=zeroValue9
 t20:=underlying20
 a20:=isAgg20
 z20:=sizeOf20
 v20:=zeroValue20
 t37:=underlying243
 a37:=isAgg243
 z37:=sizeOf243
 v37:=zeroValue243
 t46:=underlying219
 a46:=isAgg219
 z46:=sizeOf219
 v46:=zeroValue219
 t51:=underlying296
 a51:=isAgg296
 z51:=sizeOf296
 v51:=zeroValue296
 t53:=underlying23
 a53:=isAgg23
 z53:=sizeOf23
 v53:=zeroValue23
 t171:=underlying373
 a171:=isAgg373
 z171:=sizeOf373
 v171:=zeroValue373
 t173:=underlying375
 a173:=isAgg375
 z173:=sizeOf375
 v173:=zeroValue375
 t212:=underlying396
 a212:=isAgg396
 z212:=sizeOf396
 v212:=zeroValue396
 t213:=underlying397
 a213:=isAgg397
 z213:=sizeOf397
 t232:=underlying413
 a232:=isAgg413
 z232:=sizeOf413
 v232:=zeroValue413
 t233:=underlying414
 a233:=isAgg414
 z233:=sizeOf414
 v233:=zeroValue414
 g17:=by kernel_rfl
 g18:=by kernel_rfl
 g19:=by kernel_rfl }
open RowKit Go.Sort Go.Lib in
theorem Tryz.strconv_Itoa_small(i:Nat)(hi:i<100)(w:World) :
  Calls prog 177 #[(i:Int)] w λe w'=>e=.returned (.string ⟨(Lib.decDigits i).toArray⟩)/\w'=w:=Any.strconv_Itoa_small lays171 i hi w
def lays219_ren:Go.Shelf.Ren:=⟨fun|219=>303|217=>280|225=>319|224=>320|267=>321|266=>299|314=>326|n=>n,fun|9=>9|3=>3|4=>4|5=>5|46=>219|146=>379|51=>296|n=>n,fun|1=>0|n=>n⟩
def lays143_ren:Go.Shelf.Ren:=⟨fun|143=>283|219=>303|217=>280|225=>319|224=>320|267=>321|266=>299|314=>326|n=>n,fun|9=>9|3=>3|4=>4|5=>5|46=>219|146=>379|51=>296|n=>n,fun|1=>0|n=>n⟩
theorem lays143:Go.Proofs.Lays.n143 prog lays143_ren:={
 mixed:=by kernel_rfl
 f143:=func283.trans (congrArg some (by kernel_rfl))
 f217:=func280.trans (congrArg some (by kernel_rfl))
 f219:=func303.trans (congrArg some (by kernel_rfl))
 f224:=func320.trans (congrArg some (by kernel_rfl))
 f225:=func319.trans (congrArg some (by kernel_rfl))
 f266:=func299.trans (congrArg some (by kernel_rfl))
 f267:=func321.trans (congrArg some (by kernel_rfl))
 f314:=func326.trans (congrArg some (by kernel_rfl))
 t3:=underlying3
 a3:=isAgg3
 z3:=sizeOf3
 v3:=zeroValue3
 t4:=underlying4
 a4:=isAgg4
 z4:=sizeOf4
 v4:=zeroValue4
 t5:=underlying5
 a5:=isAgg5
 z5:=sizeOf5
 v5:=zeroValue5
 t9:=underlying9
 a9:=isAgg9
 z9:=sizeOf9
 v9:=zeroValue9
 t46:=underlying219
 a46:=isAgg219
 z46:=sizeOf219
 v46:=zeroValue219
 t51:=underlying296
 a51:=isAgg296
 z51:=sizeOf296
 v51:=zeroValue296
 t146:=underlying379
 a146:=isAgg379
 z146:=sizeOf379
 v146:=zeroValue379
 g1:=by kernel_rfl }
open RowKit Go.Lib in
theorem Tryz.strings_Index_one(s:ByteArray)(c:UInt8)(w:World) :
  Calls prog 283 #[s,.string ⟨#[c]⟩] w λe w'=>e=.returned (Lib.indexByte s.data.toList c:Int)/\w'=w:=Any.strings_Index_one lays143 s c w
def lays145_ren:Go.Shelf.Ren:=⟨fun|145=>287|220=>305|219=>303|217=>280|225=>319|224=>320|267=>321|266=>299|314=>326|n=>n,fun|9=>9|4=>4|59=>386|3=>3|5=>5|46=>219|146=>379|51=>296|n=>n,fun|1=>0|n=>n⟩
theorem lays145:Go.Proofs.Lays.n145 prog lays145_ren:={
 mixed:=by kernel_rfl
 f145:=func287.trans (congrArg some (by kernel_rfl))
 f217:=func280.trans (congrArg some (by kernel_rfl))
 f219:=func303.trans (congrArg some (by kernel_rfl))
 f220:=func305.trans (congrArg some (by kernel_rfl))
 f224:=func320.trans (congrArg some (by kernel_rfl))
 f225:=func319.trans (congrArg some (by kernel_rfl))
 f266:=func299.trans (congrArg some (by kernel_rfl))
 f267:=func321.trans (congrArg some (by kernel_rfl))
 f314:=func326.trans (congrArg some (by kernel_rfl))
 t3:=underlying3
 a3:=isAgg3
 z3:=sizeOf3
 v3:=zeroValue3
 t4:=underlying4
 a4:=isAgg4
 z4:=sizeOf4
 v4:=zeroValue4
 t5:=underlying5
 a5:=isAgg5
 z5:=sizeOf5
 v5:=zeroValue5
 t9:=underlying9
 a9:=isAgg9
 z9:=sizeOf9
 v9:=zeroValue9
 t46:=underlying219
 a46:=isAgg219
 z46:=sizeOf219
 v46:=zeroValue219
 t51:=underlying296
 a51:=isAgg296
 z51:=sizeOf296
 v51:=zeroValue296
 t59:=underlying386
 a59:=isAgg386
 z59:=sizeOf386
 v59:=zeroValue386
 t146:=underlying379
 a146:=isAgg379
 z146:=sizeOf379
 v146:=zeroValue379
 g1:=by kernel_rfl }
open RowKit Go.Lib in
theorem Tryz.strings_Cut(s sep:ByteArray)(m:Int)(w:World)(hs:s.size<4294967281)(a:w.cell? ⟨0,0,none⟩=some (.int .i64 m)) :
  Calls prog 287 #[s,sep] w λe w'=>e=.returned (.tuple #[.string ⟨(Lib.cut s.data.toList sep.data.toList).1.toArray⟩,.string ⟨(Lib.cut s.data.toList sep.data.toList).2.1.toArray⟩,.bool (Lib.cut s.data.toList sep.data.toList).2.2])/\∃n,w'=w.drewN n:=Any.strings_Cut lays145 s sep m w hs a
def laysM219_ren:Go.Shelf.Ren:=⟨fun|219=>303|217=>280|225=>319|224=>320|267=>321|266=>299|314=>326|n=>n,fun|9=>9|3=>3|4=>4|5=>5|46=>219|146=>379|51=>296|n=>n,fun|1=>0|n=>n⟩
theorem laysM219:Go.Proofs.LaysM.n219 prog laysM219_ren:={
 mixed:=by kernel_rfl
 f217:=func280.trans (congrArg some (by kernel_rfl))
 f219:=func303.trans (congrArg some (by kernel_rfl))
 f224:=func320.trans (congrArg some (by kernel_rfl))
 f225:=func319.trans (congrArg some (by kernel_rfl))
 f266:=func299.trans (congrArg some (by kernel_rfl))
 f267:=func321.trans (congrArg some (by kernel_rfl))
 f314:=func326.trans (congrArg some (by kernel_rfl))
 t3:=underlying3
 a3:=isAgg3
 z3:=sizeOf3
 v3:=zeroValue3
 t4:=underlying4
 a4:=isAgg4
 z4:=sizeOf4
 v4:=zeroValue4
 t5:=underlying5
 a5:=isAgg5
 z5:=sizeOf5
 v5:=zeroValue5
 t9:=underlying9
 a9:=isAgg9
 z9:=sizeOf9
 v9:=zeroValue9
 t46:=underlying219
 a46:=isAgg219
 z46:=sizeOf219
 v46:=zeroValue219
 t51:=underlying296
 a51:=isAgg296
 z51:=sizeOf296
 v51:=zeroValue296
 t146:=underlying379
 a146:=isAgg379
 z146:=sizeOf379
 v146:=zeroValue379
 g1:=by kernel_rfl
 i3:=by kernel_rfl
 i4:=by kernel_rfl
 i5:=by kernel_rfl
 i9:=by kernel_rfl
 i46:=by kernel_rfl
 i51:=by kernel_rfl
 i146:=by kernel_rfl
 m1:=by kernel_rfl
 s1_3:=λw h=>Go.Proofs.cell_of_shapedOpen_int (zero:=#[.int .i64 0]) (t:=3) h (of_decide_eq_true (by kernel_rfl)) (by kernel_rfl) rfl (by kernel_rfl) (by kernel_rfl) underlying3 }
def lays148_ren:Go.Shelf.Ren:=⟨fun|148=>188|222=>241|223=>242|269=>279|n=>n,fun|9=>9|3=>3|4=>4|5=>5|146=>379|51=>296|46=>219|n=>n,fun|n=>n⟩
theorem lays148:Go.Proofs.Lays.n148 prog lays148_ren:={
 mixed:=by kernel_rfl
 f148:=func188.trans (congrArg some (by kernel_rfl))
 f222:=func241.trans (congrArg some (by kernel_rfl))
 f223:=func242.trans (congrArg some (by kernel_rfl))
 f269:=func279.trans (congrArg some (by kernel_rfl))
 t3:=underlying3
 a3:=isAgg3
 z3:=sizeOf3
 v3:=zeroValue3
 t4:=underlying4
 a4:=isAgg4
 z4:=sizeOf4
 v4:=zeroValue4
 t5:=underlying5
 a5:=isAgg5
 z5:=sizeOf5
 v5:=zeroValue5
 t9:=underlying9
 a9:=isAgg9
 z9:=sizeOf9
 v9:=zeroValue9
 t46:=underlying219
 a46:=isAgg219
 z46:=sizeOf219
 v46:=zeroValue219
 t51:=underlying296
 a51:=isAgg296
 z51:=sizeOf296
 v51:=zeroValue296
 t146:=underlying379
 a146:=isAgg379
 z146:=sizeOf379
 v146:=zeroValue379 }
open RowKit Go.Lib in
theorem Tryz.strings_LastIndex(s a:ByteArray)(hs:s.size<4611686018427387904)(w:World) :
  Calls prog 188 #[s,a] w λe w'=>e=.returned (Lib.lastIndex s.data.toList a.data.toList:Int)/\w'=w:=Any.strings_LastIndex lays148 s a hs w
def lays207_ren:Go.Shelf.Ren:=⟨fun|207=>284|n=>n,fun|9=>9|4=>4|3=>3|n=>n,fun|n=>n⟩
def lays102_ren:Go.Shelf.Ren:=⟨fun|102=>191|209=>246|207=>284|n=>n,fun|9=>9|4=>4|3=>3|n=>n,fun|n=>n⟩
theorem lays102:Go.Proofs.Lays.n102 prog lays102_ren:={
 mixed:=by kernel_rfl
 f102:=func191.trans (congrArg some (by kernel_rfl))
 f207:=func284.trans (congrArg some (by kernel_rfl))
 f209:=func246.trans (congrArg some (by kernel_rfl))
 t3:=underlying3
 a3:=isAgg3
 z3:=sizeOf3
 v3:=zeroValue3
 t4:=underlying4
 a4:=isAgg4
 z4:=sizeOf4
 v4:=zeroValue4
 t9:=underlying9
 a9:=isAgg9
 z9:=sizeOf9
 v9:=zeroValue9 }
open RowKit Go.Lib in
theorem Tryz.strings_TrimSuffix(s p:ByteArray)(w:World)(hs:s.size<=9223372036854775807) :
  Calls prog 191 #[s,p] w λe w'=>e=.returned (.string ⟨(Lib.trimSuffix s.data.toList p.data.toList).toArray⟩)/\w'=w:=Any.strings_TrimSuffix lays102 s p w hs
def lays221_ren:Go.Shelf.Ren:=⟨fun|221=>245|268=>281|138=>282|143=>283|195=>300|197=>301|218=>302|219=>303|260=>318|217=>280|225=>319|224=>320|267=>321|266=>299|314=>326|n=>n,fun|9=>9|3=>3|31=>105|4=>4|0=>0|105=>400|21=>21|5=>5|46=>219|119=>415|139=>418|138=>417|146=>379|51=>296|n=>n,fun|1=>0|3=>4|4=>5|n=>n⟩
def lays146_ren:Go.Shelf.Ren:=⟨fun|146=>190|221=>245|268=>281|138=>282|143=>283|195=>300|197=>301|218=>302|219=>303|260=>318|217=>280|225=>319|224=>320|267=>321|266=>299|314=>326|n=>n,fun|9=>9|31=>105|3=>3|4=>4|0=>0|105=>400|21=>21|5=>5|46=>219|119=>415|139=>418|138=>417|146=>379|51=>296|n=>n,fun|1=>0|3=>4|4=>5|n=>n⟩
theorem lays146:Go.Proofs.Lays.n146 prog lays146_ren:={
 mixed:=by kernel_rfl
 f138:=func282.trans (congrArg some (by kernel_rfl))
 f143:=func283.trans (congrArg some (by kernel_rfl))
 f146:=func190.trans (congrArg some (by kernel_rfl))
 f195:=func300.trans (congrArg some (by kernel_rfl))
 f197:=func301.trans (congrArg some (by kernel_rfl))
 f217:=func280.trans (congrArg some (by kernel_rfl))
 f218:=func302.trans (congrArg some (by kernel_rfl))
 f219:=func303.trans (congrArg some (by kernel_rfl))
 f221:=func245.trans (congrArg some (by kernel_rfl))
 f224:=func320.trans (congrArg some (by kernel_rfl))
 f225:=func319.trans (congrArg some (by kernel_rfl))
 f260:=func318.trans (congrArg some (by kernel_rfl))
 f266:=func299.trans (congrArg some (by kernel_rfl))
 f267:=func321.trans (congrArg some (by kernel_rfl))
 f268:=func281.trans (congrArg some (by kernel_rfl))
 f314:=func326.trans (congrArg some (by kernel_rfl))
 t0:=underlying0
 a0:=isAgg0
 z0:=sizeOf0
 v0:=zeroValue0
 t3:=underlying3
 a3:=isAgg3
 z3:=sizeOf3
 v3:=zeroValue3
 t4:=underlying4
 a4:=isAgg4
 z4:=sizeOf4
 v4:=zeroValue4
 t5:=underlying5
 a5:=isAgg5
 z5:=sizeOf5
 v5:=zeroValue5
 t9:=underlying9
 a9:=isAgg9
 z9:=sizeOf9
 v9:=zeroValue9
 t21:=underlying21
 a21:=isAgg21
 z21:=sizeOf21
 v21:=zeroValue21
 t31:=underlying105
 a31:=isAgg105
 z31:=sizeOf105
 v31:=zeroValue105
 t46:=underlying219
 a46:=isAgg219
 z46:=sizeOf219
 v46:=zeroValue219
 t51:=underlying296
 a51:=isAgg296
 z51:=sizeOf296
 v51:=zeroValue296
 t105:=underlying400
 a105:=isAgg400
 z105:=sizeOf400
 v105:=zeroValue400
 t119:=underlying415
 a119:=isAgg415
 z119:=sizeOf415
 t138:=underlying417
 a138:=isAgg417
 z138:=sizeOf417
 v138:=zeroValue417
 t139:=underlying418
 a139:=isAgg418
 z139:=sizeOf418
 v139:=zeroValue418
 t146:=underlying379
 a146:=isAgg379
 z146:=sizeOf379
 v146:=zeroValue379
 g1:=by kernel_rfl
 g3:=by kernel_rfl
 g4:=by kernel_rfl }
open RowKit Go.Lib in
theorem Tryz.strings_Split(s sep:ByteArray)(m:Int)(w:World)(hs:s.size<4294967281)(b:w.cell? ⟨0,0,none⟩=some (.int .i64 m))(a:1<=sep.size) :
  Calls prog 190 #[s,sep] w λe w'=>
   e=.returned (.slice w (Lib.countB s sep+1) (Lib.countB s sep+1))/\w'=w.alloc (.cells ((Lib.splitB sep 0 (Lib.countB s sep) s).map Value.string).toArray 9):=Any.strings_Split lays146 (by kernel_rfl) s sep m w hs b a
end Go.Proofs
namespace Go.Proofs.YtjlblidnfebmiaaGreatDoor
theorem Gx(A n:Nat)(a:A<18446744073709551616):(bits BinOp.and IntKind.u64 ((A:Int) / 2 ^ n) 1 == 1)=A.testBit n:=by
 have e:((A:Int) / 2 ^ n)=((A / 2 ^ n:Nat):Int):=by simp
 have Ha:A / 2 ^ n<18446744073709551616:=Nat.lt_of_le_of_lt (Nat.div_le_self _ _) a;rw[e,show (1:Int)=((1:Nat):Int) from rfl,bits_and_u64_nat _ _ Ha (by omega),Nat.testBit_eq_decide_div_mod_eq,Nat.and_one_is_mod];rw[Bool.eq_iff_iff];simp;omega
theorem Gy(A n:Nat)(w:World)(a:A<18446744073709551616)(c:n<64) :
  Calls prog 148 #[.int .u64 A,(n:Int)] w λe w'=>e=.returned (.bool (A.testBit n))/\w'=w:=by
 have b:=Gx A n a
 go_enter func148,ntmps148
 go_wp2_with go_in
 go_ret;exact⟨rfl,rfl⟩
theorem Gz(A:Nat)(n:Int)(w:World)(a:n<0\/64<=n) :
  Calls prog 148 #[.int .u64 A,n] w λe w'=>e=.returned false/\w'=w:=by
 have key:n<0\/(0<=n/\64<=n):=by omega
 clear a
 rcases key with h|⟨b,h⟩
 all_goals
  go_enter func148,ntmps148
  go_wp2_with go_in
  go_ret;exact⟨rfl,rfl⟩
def WD (l:List Nat):List Value:=l.map λ(n:Nat)=>Value.int .i64 (n:Int)
theorem GA(A k:Nat):(bf A k).length<=k:=by
 unfold bf;exact Q5 (List.length_filter_le _ _) (by simp)
theorem qi(a m q n:Nat)(c:a<256)(d:m<256):(a+256*q) &&& (m+256*n)=(a &&& m)+256*(q &&& n):=by
 have b:∀x y:Nat,x<256->x+256*y=2 ^ 8*y ||| x:=λx y e=>by
  rw[<- Nat.two_pow_add_eq_or_of_lt (i:=8) e];omega
 have f:a &&& m<256:=Nat.lt_of_le_of_lt Nat.and_le_left c;rw[b a q c,b m n d,b _ (q &&& n) f];apply Nat.eq_of_testBit_eq;intro i;simp only[Nat.testBit_and,Nat.testBit_or,Nat.testBit_two_pow_mul]
 by_cases hi:8<=i
 ·have h:a.testBit i=false:=Nat.testBit_lt_two_pow (Q1 c (Nat.pow_le_pow_right (n:=2) (by omega) hi));have g:m.testBit i=false:=Nat.testBit_lt_two_pow (Q1 d (Nat.pow_le_pow_right (n:=2) (by omega) hi))
  simp[h,g,hi]
 ·simp[hi]
def lZ:Nat->Nat
 | 0=>0
 | k+1=>85+256*lZ k
def li:Nat->Nat
 | 0=>0
 | k+1=>51+256*li k
def oP:Nat->Nat
 | 0=>0
 | k+1=>15+256*oP k
def eJ (k x:Nat):Nat:=(x / 2 &&& lZ k)+(x &&& lZ k)
def eW (k x:Nat):Nat:=(x / 4 &&& li k)+(x &&& li k)
def lj (k x:Nat):Nat:=(x / 16+x) &&& oP k
def jk (b:Nat):Nat:=(b / 2 &&& 85)+(b &&& 85)
def jO (b:Nat):Nat:=(b / 4 &&& 51)+(b &&& 51)
def uW (b:Nat):Nat:=(b / 16+b) &&& 15
theorem GB:∀(b:Fin 256) (c:Fin 2),(b.val / 2+128*c.val) &&& 85=b.val / 2 &&& 85:=by decide +kernel
theorem GC:∀(b:Fin 256) (c:Fin 4),(b.val / 4+64*c.val) &&& 51=b.val / 4 &&& 51:=by decide +kernel
theorem GD:∀(b:Fin 256) (c:Fin 5),(jO (jk b.val) / 16+jO (jk b.val)+16*c.val) &&& 15=uW (jO (jk b.val)):=by decide +kernel
theorem sr:∀b:Fin 256,jk b.val<256/\jO (jk b.val)<69/\jO (jk b.val) % 16<=4/\uW (jO (jk b.val))<=8:=by decide +kernel
theorem GE(k b q:Nat)(a:b<256):eJ (k+1) (b+256*q)=jk b+256*eJ k q:=by
 unfold eJ jk;have e:(b+256*q) / 2=(b / 2+128*(q % 2))+256*(q / 2):=by omega
 rw[e,lZ,qi _ 85 _ _ (by omega) (by omega),qi b 85 q _ a (by omega)];have h:=GB ⟨b,a⟩ ⟨q % 2,by omega⟩;simp only at h;rw[h];generalize b / 2 &&& 85=g;generalize b &&& 85=f;generalize q / 2 &&& lZ k=d;generalize q &&& lZ k=c;omega
theorem GF(k b q:Nat)(a:b<256):eW (k+1) (b+256*q)=jO b+256*eW k q:=by
 unfold eW jO;have e:(b+256*q) / 4=(b / 4+64*(q % 4))+256*(q / 4):=by omega
 rw[e,li,qi _ 51 _ _ (by omega) (by omega),qi b 51 q _ a (by omega)];have h:=GC ⟨b,a⟩ ⟨q % 4,by omega⟩;simp only at h;rw[h];generalize b / 4 &&& 51=g;generalize b &&& 51=f;generalize q / 4 &&& li k=d;generalize q &&& li k=c;omega
theorem y8(k x:Nat):eW (k+1) (eJ (k+1) x)=jO (jk (x % 256))+256*eW k (eJ k (x / 256)):=by
 have a:x % 256<256:=Nat.mod_lt _ (by omega)
 conv=>lhs;rw[show x=x % 256+256*(x / 256) by omega]
 rw[GE k _ _ a,GF k _ _ (sr ⟨_,a⟩).1]
theorem GG(k x:Nat):eW k (eJ k x) % 16<=4:=by
 cases k with
 | zero=>simp[eW,li]
 | succ k=>
  have a:x % 256<256:=Nat.mod_lt _ (by omega);have h:=(sr ⟨x % 256,a⟩).2.2.1;rw[y8];simp only at h;omega
def oQ (k x:Nat):Nat:=lj k (eW k (eJ k x))
def qj (b:Nat):Nat:=uW (jO (jk b))
theorem l6(k x:Nat):oQ (k+1) x=qj (x % 256)+256*oQ k (x / 256):=by
 have b:x % 256<256:=Nat.mod_lt _ (by omega);unfold oQ qj;rw[y8];have d:=GG k (x / 256);generalize hQ:eW k (eJ k (x / 256))=Q at d ⊢;have c:=(sr ⟨x % 256,b⟩).2.1;have a:=GD ⟨x % 256,b⟩ ⟨Q % 16,by omega⟩;simp only at c a;generalize jO (jk (x % 256))=F at c a ⊢;unfold lj;have e:(F+256*Q) / 16+(F+256*Q)=(F / 16+F+16*(Q % 16))+256*(Q / 16+Q):=by omega
 rw[e,oP,qi _ 15 _ _ (by omega) (by omega),a]
theorem y9(b q i:Nat)(a:b<256):(b+256*q).testBit i=if i<8 then b.testBit i else q.testBit (i - 8):=by
 have e:b+256*q=2 ^ 8*q+b:=by omega
 rw[e,Nat.testBit_two_pow_mul_add q (i:=8) a]
theorem GH(b q k:Nat)(a:b<256):(bf (b+256*q) (8+k)).length=(bf b 8).length+(bf q k).length:=by
 induction k with
 | zero=>
  have:bf (b+256*q) (8+0)=bf b 8:=by
   unfold bf;apply List.filter_congr;intro i hi;rw[y9 b q i a,if_pos (by simpa using hi)]
  rw[this];rfl
 | succ k ih=>
  show (bf (b+256*q) ((8+k)+1)).length=_
  have e:(b+256*q).testBit (8+k)=q.testBit k:=by
   rw[y9 b q _ a,if_neg (by omega),show 8+k - 8=k by omega]
  rw[nu,nu q,e]
  by_cases h:q.testBit k=true
  ·rw[if_pos h,if_pos h,Q2,Q2,ih];simp;omega
  ·rw[if_neg h,if_neg h,ih]
theorem GI:∀b:Fin 256,qj b.val=(bf b.val 8).length:=by decide +kernel
theorem l7(x k:Nat):(bf x (8+k)).length=qj (x % 256)+(bf (x / 256) k).length:=by
 have a:x % 256<256:=Nat.mod_lt _ (by omega)
 conv=>lhs;rw[show x=x % 256+256*(x / 256) by omega]
 rw[GH _ _ k a,<- GI ⟨_,a⟩]
theorem l8(x:Nat):qj (x % 256)<=8:=(sr ⟨x % 256,Nat.mod_lt _ (by omega)⟩).2.2.2
theorem za(x:Nat):∃a b c d e f g h:Nat,a<=8/\b<=8/\c<=8/\d<=8/\e<=8/\f<=8/\g<=8/\h<=8/\
  oQ 8 x=a+256*(b+256*(c+256*(d+256*(e+256*(f+256*(g+256*h))))))/\(bf x 64).length=a+b+c+d+e+f+g+h:=by
 refine⟨_,_,_,_,_,_,_,_,l8 x,l8 (x / 256),l8 (x / 256 / 256),l8 (x / 256 / 256 / 256),l8 (x / 256 / 256 / 256 / 256),l8 (x / 256 / 256 / 256 / 256 / 256),l8 (x / 256 / 256 / 256 / 256 / 256 / 256),l8 (x / 256 / 256 / 256 / 256 / 256 / 256 / 256),?_,?_⟩
 ·rw[l6,l6,l6,l6,l6,l6,l6,l6]
  have:∀y,oQ 0 y=0:=λy=>by simp[oQ,lj,oP]
  rw[this,Nat.mul_zero,Nat.add_zero]
 ·rw[l7 x 56,l7 (x / 256) 48,l7 (x / 256 / 256) 40,l7 (x / 256 / 256 / 256) 32,l7 (x / 256 / 256 / 256 / 256) 24,l7 (x / 256 / 256 / 256 / 256 / 256) 16,l7 (x / 256 / 256 / 256 / 256 / 256 / 256) 8,l7 (x / 256 / 256 / 256 / 256 / 256 / 256 / 256) 0]
  have:∀y,(bf y 0).length=0:=λy=>rfl
  rw[this];omega
theorem two(b:Bool):b=true\/b=false:=by cases b <;> simp
theorem qI{p:Prop}(h:p):Hu p:=h
def aJ (n:Int):Value:=if n=0 then .nilIface else .iface 108 n
theorem below_drewN{B:Nat}{a w:World}(h:Below B a w)(n:Nat):Below B a (w.drewN n):=⟨h.os,h.tape,h.output,h.size,h.block⟩
theorem qk(s n:Nat)(hs:s<18446744073709551616)(c:n<64):bits BinOp.or IntKind.u64 (s:Int) (IntKind.u64.wrap (2 ^ n))=((s ||| 2 ^ n:Nat):Int):=by
 have b:2 ^ n<18446744073709551616:=Nat.pow_lt_pow_right (a:=2) (by omega) c;rw[show (2 ^ n:Int)=((2 ^ n:Nat):Int) by simp];generalize 2 ^ n=q at b ⊢;rw[IntKind.wrap_u64,show (q:Int) % 18446744073709551616=(q:Int) by omega];exact bits_or_u64_nat s q hs b
theorem GJ(A n:Nat)(a:A<18446744073709551616):(bits BinOp.and IntKind.u64 ((A:Int) / 2 ^ n) 1 == 1)=A.testBit n:=by
 have e:((A:Int) / 2 ^ n)=((A / 2 ^ n:Nat):Int):=by simp
 have Ha:A / 2 ^ n<18446744073709551616:=Nat.lt_of_le_of_lt (Nat.div_le_self _ _) a;rw[e,show (1:Int)=((1:Nat):Int) from rfl,bits_and_u64_nat _ _ Ha (by omega),Nat.testBit_eq_decide_div_mod_eq,Nat.and_one_is_mod];rw[Bool.eq_iff_iff];simp;omega
theorem GK(s:ByteArray)(k:Nat)(a:k<s.data.toList.length):s.data.toList[k]=s[k]'(by simpa using a):=by simp[ByteArray.getElem_eq_getElem_data]
theorem GL(s:ByteArray)(w:World)(hs:s.size<=maxLen) :
  Calls prog 183 #[s] w λe w'=>e=.returned (.int .u32 (eU s.data.toList:Nat))/\w'=w:=by
 unfold maxLen at hs;have c:Hu (s.data.toList.length=s.size):=by unfold Hu;simp
 go_enter func183,ntmps183
 go_wp2_with fail
 go_loop [3,7] (λh i=>∃k:Nat,k<=s.size/\i=.int .i64 k/\h=.int .u32 (eU (s.data.toList.take k):Nat)) (λ_ i=>s.size - (intOf i).toNat)
 case atStart=>exact⟨0,by omega,rfl,by simp[eU]⟩
 case round=>
  obtain⟨k,j,rfl,rfl⟩:=hrel
  by_cases a:k<s.size
  ·have Ha:k<s.data.toList.length:=by rw[c.o];exact a
   have b:=qI (F9 Ha);rw[GK s k Ha] at b;have g:=uN (s.data.toList.take k);generalize eU (s.data.toList.take k)=H at *;have f:s[k].toNat<4294967296:=by have:=s[k].toNat_lt;omega
   have m:=Gb g f;have n:=Gc H s[k]
   go_wp2_with fail
   go_round
   case rel=>exact⟨k+1,by omega,rfl,by rw[b.o]⟩
   case measure=>simp[intOf];omega
  ·have Hb:k=s.size:=by omega
   subst Hb;have d:Hu (s.data.toList.take s.size=s.data.toList):=by unfold Hu;rw[<- c.o,Qh]
   go_wp2
   go_ret;exact⟨congrArg (λl=>Ending.returned (.int .u32 (eU l:Nat))) d.o,rfl⟩
theorem zb{fn:Func}{p:Tmp}{b:TypeId}(h:fn.results=#[.cell p b])(tmps:Array Value)(P:Program)(w:World) :
  (results fn tmps).run P w=((asAddr (tmps.getD p undef)).run P w).andThen λa c=>(loadVar b a).run P c:=by
 simp only[results,h]
 simp[Sem.run_bind,Result.andThen]
structure Sd where
 ft:Bool
 fb:ByteArray
 dt:Bool
 db:ByteArray
def Sd.agg (s:Sd):Value:=.agg #[s.ft,s.fb,s.dt,s.db]
structure Chg where
 wr:Bool
 bs:ByteArray
def Chg.agg (c:Chg):Value:=.agg #[c.wr,c.bs]
def Chg.on (c:Chg) (s:Sd):Sd:=if c.wr=true then ⟨s.ft,s.fb,true,c.bs⟩ else ⟨s.dt,s.db,false,⟨#[]⟩⟩
theorem GM(c:Chg)(s:Sd)(w:World):Calls prog 33 #[c.agg,s.agg] w λe w'=>e=.returned (c.on s).agg/\Below w w w':=by
 obtain⟨wr,bs⟩:=c;obtain⟨ft,fb,dt,db⟩:=s;unfold Chg.agg Sd.agg;dsimp only;have a:=(((Q0 w w).alloc (lR) (.cells #[wr,bs] 111)).alloc (by simp) (.cells #[ft,fb,dt,db] 93));cases wr with
 | true=>
  have b:=qI (a.alloc a.size (.cells #[ft,fb,true,bs] 93));clear a
  go_enter func33,ntmps33
  go_wp2_with fail
  refine bodyPost_ret (v:=.agg #[ft,fb,true,bs]) ?_ rfl ⟨rfl,b.o⟩;rw[zb rfl];go_simp
 | false=>
  have b:=qI (a.alloc a.size (.cells #[dt,db,false,.string ⟨#[]⟩] 93));clear a
  go_enter func33,ntmps33
  go_wp2_with fail
  refine bodyPost_ret (v:=.agg #[dt,db,false,.string ⟨#[]⟩]) ?_ rfl ⟨rfl,b.o⟩;rw[zb rfl];go_simp
