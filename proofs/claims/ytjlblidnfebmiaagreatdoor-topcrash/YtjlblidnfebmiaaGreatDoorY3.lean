import Derived.Test.YtjlblidnfebmiaaGreatDoorY2
import Derived.Test.YtjlblidnfebmiaaGreatDoorProg
import Derived.Test.YtjlblidnfebmiaaGreatDoorY1
import Derived.Lib.Join
import Derived.Shelf.Strings.Builder1
import Derived.Shelf.Strings.Builder2
import Derived.Shelf.Strings.OnBuilder
import Derived.Shelf.Small.Bits
import Derived.Shelf.Small.Strs
import Derived.Shelf.Small.Wraps
import Derived.Shelf.Strings.BuilderF
import Derived.Shelf.Strings.BuilderK
import Derived.Shelf.Strconv.Itoa0
import Derived.Shelf.Strconv.Itoa1
import Derived.Shelf.LaysM
import Derived.Shelf.Strconv.Itoa2
import Derived.Shelf.Strconv.Itoa3
import Derived.Shelf.Strings.Search1
import Derived.Shelf.Strings.Search2
import Derived.Shelf.Strings.Search3
import Derived.Shelf.Strings.Cut
import Derived.Shelf.Strings.Count
import Derived.Shelf.Strings.Shaped
import Derived.Shelf.Sort.Plain
import Derived.Shelf.Strings.LastIndex
import Derived.Shelf.Strings.LastIndexAll
import Derived.Shelf.Strings.Prefix
import Derived.Shelf.Strings.Split
import Derived.Shelf.Strings.SplitShaped
import Derived.Shelf.Unicode.Decode
import Derived.Shelf.Strings.RuneCount
import Derived.Shelf.Strings.Explode
import Derived.Shelf.Slices.Equal
import Derived.Ground.Names2Prog
import Derived.Shelf.Slices.Clone
import Derived.Shelf.Slices.In.SortNone
import Derived.Shelf.Slices.Empties2
import Derived.Ground.SlgnProg
import Derived.Shelf.SlicesE.Clone
import Derived.Ground.SlsfProg
import Derived.Shelf.SlSortCmp.Insertion
import Derived.Shelf.SlSortCmp.SiftDown1
import Derived.Shelf.SlSortCmp.HeapSort1
import Derived.Shelf.SlSortCmp.Insertion1
import Derived.Shelf.SlSortCmp.Median1
import Derived.Shelf.SlSortCmp.Pivot1
import Derived.Shelf.SlSortCmp.ReverseRange1
import Derived.Shelf.SlSortCmp.PartialInsertion1
import Derived.Shelf.SlSortCmp.PartitionEqual1
import Derived.Shelf.SlSortCmp.Partition1
import Derived.Shelf.SlSortCmp.Pdq1
import Derived.Shelf.SlSortCmp.Whole1
import Derived.Shelf.SlSortCmp.NoneTotal
import Derived.Ground.PaProg
import Derived.Shelf.Path.Small
import Derived.WalkSpells
import Derived.WalkLawsBesides
import Derived.Deep.QuietTactic
import Derived.BigQuiet
set_option maxRecDepth 100000
set_option maxHeartbeats 16000000
open Go Go.RowKit Go.Shelf
open Go.Proofs.Tryz
namespace Go.Proofs.YtjlblidnfebmiaaGreatDoor
def bm (A k:Nat):List Nat:=(List.range k).filter (A.testBit ·)
theorem oO(A k:Nat):bm A (k+1)=if A.testBit k then bm A k++[k] else bm A k:=by
 grind[bm,List.range_succ]
def iw (A:Nat):Nat->Nat
 | 0=>0
 | n+1=>if A.testBit n then iw A n else n+1
def fw (A:Nat):Nat->List (Nat × Nat)
 | 0=>[]
 | k+1=>if A.testBit k && !A.testBit (k+1) then fw A k++[(iw A k,k)] else fw A k
def dG (p:Nat × Nat):List UInt8:=if p.1=p.2 then Lib.decDigits p.1 else Lib.decDigits p.1++[45]++Lib.decDigits p.2
def kw (l:List (Nat × Nat)):List UInt8:=Lib.join (l.map dG) [44]
theorem wB(c:List (List UInt8))(x sep:List UInt8):Lib.join (c++[x]) sep=if c=[] then x else Lib.join c sep++sep++x:=by
 unfold Lib.join
 induction c with
 | nil=>simp[List.intercalate]
 | cons a r ih=>
  simp only[List.cons_append,reduceCtorEq,if_false];cases r with
  | nil=>simp[List.intercalate]
  | cons b t=>
   simp only[List.cons_append,reduceCtorEq,if_false] at ih;have e:sep.intercalate (a :: b :: (t++[x]))=a++sep++sep.intercalate (b :: (t++[x])):=by simp
   have d:sep.intercalate (a :: b :: t)=a++sep++sep.intercalate (b :: t):=by simp
   rw[List.cons_append,e,d,ih]
   simp
theorem Jb(n:Nat):Lib.decDigits n≠[]:=by
 grind[Lib.decDigits_length,Lib.nDigits_pos]
theorem Jc(p:Nat × Nat):dG p≠[]:=by
 unfold dG
 split
 ·exact Jb _
 ·simp
theorem AH(l:List (Nat × Nat)):kw l=[]↔l=[]:=by
 constructor
 ·intro h;cases l with
  | nil=>rfl
  | cons a r=>
   exfalso
   unfold kw at h;cases r with
   | nil=>simp[Lib.join,List.intercalate] at h;exact Jc a h
   | cons b t=>simp[Lib.join,List.intercalate] at h
 ·rintro rfl;rfl
theorem Jd(l:List (Nat × Nat))(p:Nat × Nat):kw (l++[p])=if kw l=[] then dG p else kw l++[44]++dG p:=by
 unfold kw;rw[Qj,Qq,List.map_nil,wB]
 by_cases h:l=[]
 ·simp_all[Lib.join]
 ·rw[if_neg (by simpa using h),if_neg];intro e;exact h ((AH l).1 e)
theorem Je(A k:Nat):2*(fw A k).length<=k+1/\(A.testBit k=true->2*(fw A k).length<=k):=by induction k <;> grind[fw]
theorem Jf(n:Nat)(h:n<100):(Lib.decDigits n).length<=2:=wA 1 n (by omega)
theorem Jg(f l:Nat)(hf:f<64)(a:l<64):(dG (f,l)).length<=5:=by
 grind[Jf,dG]
theorem AI(A k:Nat):iw A k<=k:=by induction k <;> grind[iw]
theorem AJ{A k:Nat}(p:Nat × Nat)(h:p∈fw A k):p.1<=p.2/\p.2<k:=by induction k <;> grind[fw,AI]
theorem Jh(l:List (Nat × Nat))(h:∀p∈l,p.1<=p.2/\p.2<64):(kw l).length<=6*l.length:=by
 have key_Ost:∀r:List (Nat × Nat),(∀p∈r.reverse,p.1<=p.2/\p.2<64)->(kw r.reverse).length<=6*r.reverse.length:=by
  intro r
  induction r with
  | nil=>intro _;simp[kw,Lib.join,List.intercalate]
  | cons p r ih=>
   intro a;rw[List.reverse_cons] at a ⊢;have d:=ih λq b=>a q (Qi.2 (.inl b));have e:=a p (Qi.2 (.inr (by simp)));have c:(dG p).length<=5:=Jg p.1 p.2 (by omega) (by omega);rw[Jd,Q2]
   split
   ·grind
   ·grind
 have:=key_Ost l.reverse (by simpa using h)
 simpa using this
def ji (A:Nat):List UInt8:=kw (fw A 64)
theorem wC(A:Nat):(ji A).length<=300:=by
 have b:=Jh (fw A 64) λp a=>AJ p a;have c:=(Je A 64).1;unfold ji;omega
def aP (c:UInt8):List UInt8->List (List UInt8)
 | []=>[[]]
 | b :: r=>if b=c then [] :: aP c r else
  match aP c r with
  | []=>[[b]]
  | x :: xs=>(b :: x) :: xs
theorem qh(c:UInt8)(l:List UInt8):aP c l≠[]:=by unfold aP;grind
theorem ue(c:UInt8)(l:List UInt8)(h:c ∉ l):aP c l=[l]:=by induction l <;> grind[aP]
theorem rK(c:UInt8)(l r:List UInt8)(h:c ∉ l):aP c (l++c :: r)=l :: aP c r:=by induction l <;> grind[aP]
theorem wD(c:UInt8)(d:List (List UInt8))(h:∀x∈d,c ∉ x)(f:d≠[]):aP c (Lib.join d [c])=d:=by
 induction d with
 | nil=>exact absurd rfl f
 | cons a r ih=>
  cases r with
  | nil=>simp[Lib.join,List.intercalate];exact ue c a (h a (by simp))
  | cons b t=>
   have e:Lib.join (a :: b :: t) [c]=a++c :: Lib.join (b :: t) [c]:=by simp[Lib.join]
   rw[e,rK c _ _ (h a (by simp)),ih (λx g=>h x (by grind)) (by simp)]
def iR (t:List UInt8):Option (Int × Int):=
 if (be 45 t).2.2 then
  (if (dA 19 (be 45 t).1 && dA 19 (be 45 t).2.1 && decide (bX (be 45 t).1<=bX (be 45 t).2.1)) then some (bX (be 45 t).1,bX (be 45 t).2.1) else none)
 else if dA 19 (be 45 t).1 then some (bX (be 45 t).1,bX (be 45 t).1) else none
def ix (f:Nat):Nat->Nat
 | 0=>0
 | m+1=>ix f m ||| 2 ^ (f+m)
def m8 (acc:Nat):List (List UInt8)->Nat × Int
 | []=>(acc,0)
 | t :: r=>match iR t with
  | none=>(0,4)
  | some (f,l)=>if 63<l then (0,1) else m8 (acc ||| ix f.toNat (l - f+1).toNat) r
def ef (l:List UInt8):Nat × Int:=if 300<l.length then (0,2) else if l=[] then (0,0) else m8 0 (aP 44 l)
theorem qi(n:Nat)(c:UInt8)(a:gw c=false):c ∉ Lib.decDigits n:=by
 intro b
 have:=List.all_eq_true.1 (rJ n).1 c b
 rw[a] at this;cases this
theorem wE(n:Nat)(h:n<64):dA 19 (Lib.decDigits n)=true:=by
 have d:=Ja n 1 (by omega) (by omega);obtain⟨a,b,c⟩:=(oN).1 d;exact (oN).2 ⟨a,Int.le_trans b (by omega),c⟩
theorem AK(c:UInt8)(l r:List UInt8)(h:c ∉ l):be c (l++c :: r)=(l,r,true):=by induction l <;> grind[be]
theorem Ji(c:UInt8)(l:List UInt8)(h:c ∉ l):be c l=(l,[],false):=by induction l <;> grind[be]
theorem Jj(f l:Nat)(h:f<=l)(a:l<64):iR (dG (f,l))=some ((f:Int),(l:Int)):=by
 have b:bX (Lib.decDigits f)=f:=(rJ f).2;have v2:bX (Lib.decDigits l)=l:=(rJ l).2;unfold dG
 by_cases e:f=l
 ·subst e;rw[if_pos rfl];unfold iR;rw[Ji 45 _ (qi f 45 (by decide)),wE f a,b];simp
 ·rw[if_neg e];unfold iR;rw[List.append_assoc,List.singleton_append,AK 45 _ _ (qi f 45 (by decide)),wE f (by omega),wE l a,b,v2]
  have:(f:Int)<=l:=by omega
  simp[this]
theorem Jk(f m i:Nat):(ix f m).testBit i=decide (f<=i/\i<f+m):=by induction m <;> grind[ix]
def uf (acc:Nat) (l:List (Nat × Nat)):Nat:=l.foldl (λs p=>s ||| ix p.1 (p.2 - p.1+1)) acc
theorem Jl(l:List (Nat × Nat))(h:∀p∈l,p.1<=p.2/\p.2<64)(a:Nat):m8 a (l.map dG)=(uf a l,0):=by
 induction l generalizing a with
 | nil=>rfl
 | cons p r ih=>
  have b:=h p (by simp);rw[Qq,m8,show dG p=dG (p.1,p.2) from rfl,Jj p.1 p.2 b.1 b.2]
  simp only
  rw[if_neg (by omega),ih λq c=>h q (by simp[c])];rw[show ((p.1:Nat):Int).toNat=p.1 by omega,show (((p.2:Nat):Int) - (p.1:Nat)+1).toNat=p.2 - p.1+1 by omega];rfl
theorem Jm(A k i:Nat)(a:A.testBit k=true)(b:iw A k<=i)(c:i<=k):A.testBit i=true:=by induction k <;> grind[iw]
theorem Jn(A k i:Nat):(uf 0 (fw A k)).testBit i=(A.testBit i && decide (i<if A.testBit k then iw A k else k)):=by induction k <;> grind[iw,fw,uf,ix,Jk,AI,Jm]
theorem AL(A:Nat)(a:A<18446744073709551616)(i:Nat)(h:64<=i):A.testBit i=false:=
 Nat.testBit_lt_two_pow (Q1 a (Nat.pow_le_pow_right (n:=2) (by omega) h))
theorem AM(A:Nat)(a:A<18446744073709551616):uf 0 (fw A 64)=A:=by
 apply Nat.eq_of_testBit_eq;intro i;rw[Jn,AL A a 64 (lR)]
 by_cases h:i<64
 ·grind
 ·grind[AL]
theorem Jo(A:Nat)(b:A<18446744073709551616):ef (ji A)=(A,0):=by
 unfold ef;have h:=wC A;rw[if_neg (by omega)]
 by_cases a:fw A 64=[]
 ·have c:ji A=[]:=by unfold ji;rw[a];rfl
  rw[if_pos c]
  have:=AM A b
  rw[a] at this;rw[<- this];rfl
 ·have Ha:ji A≠[]:=λe=>a ((AH _).1 e)
  rw[if_neg Ha];have hs:aP 44 (ji A)=(fw A 64).map dG:=by
   refine wD 44 _ ?_ (by simpa using a);intro x g;obtain⟨p,_,rfl⟩:=Qk.1 g;unfold dG;have d:=λn=>qi n 44 (by decide)
   split
   ·exact d _
   ·grind
  rw[hs,Jl _ λp f=>AJ p f,AM A b]
end Go.Proofs.YtjlblidnfebmiaaGreatDoor
namespace Go.Proofs
open Go.Shelf
def lays169_ren:Go.Shelf.Ren:=⟨fun|169=>141|n=>n,fun|70=>242|9=>9|0=>0|72=>245|37=>243|127=>294|3=>3|5=>5|n=>n,fun|n=>n⟩
theorem lays169:Go.Proofs.Lays.n169 prog lays169_ren:=by constructor<;>intros<;>kernel_rfl
theorem Tryz.Builder_Extra_169:Builder.Extra prog lays169_ren:={
 sizeBuilder:=by kernel_rfl
 liesBuilder:=by kernel_rfl
 t5:=underlying5
 a5:=isAgg5
 z5:=sizeOf5
 v5:=zeroValue5
 infoByte:=by kernel_rfl
 cellsByte:=by kernel_rfl
 sizeByte:=by kernel_rfl
 neB5:=by decide }
def lays156_ren:Go.Shelf.Ren:=⟨fun|156=>227|165=>270|166=>137|169=>141|240=>175|241=>293|276=>226|277=>315|n=>n,fun|31=>105|9=>9|3=>3|4=>4|0=>0|20=>20|72=>245|76=>246|70=>242|37=>243|75=>40|127=>294|164=>334|5=>5|80=>251|n=>n,fun|n=>n⟩
theorem lays156:Go.Proofs.Lays.n156 prog lays156_ren:=by constructor<;>intros<;>kernel_rfl
theorem Tryz.Builder_Extra_156:Builder.Extra prog lays156_ren:={
 sizeBuilder:=by kernel_rfl
 liesBuilder:=by kernel_rfl
 t5:=underlying5
 a5:=isAgg5
 z5:=sizeOf5
 v5:=zeroValue5
 infoByte:=by kernel_rfl
 cellsByte:=by kernel_rfl
 sizeByte:=by kernel_rfl
 neB5:=by decide }
open RowKit in
theorem Tryz.strings_Join_none(a:Option Addr)(c:Nat)(sep:ByteArray)(w:World) :
  Calls prog 227 #[.slice a 0 c,sep] w λe w'=>e=.returned (.string ⟨#[]⟩)/\w'=w:=Any.strings_Join_none lays156 Tryz.Builder_Extra_156 a c sep w
open RowKit in
theorem Tryz.strings_Join(bk o c:Nat)(b:List ByteArray)(sep:ByteArray)(w:World)(a:∀(j:Nat) x,b[j]?=some x->w.cell? ⟨bk,o+j,none⟩=some (.string x))(g:bk<w)(h:b.length<=140737488355328)(d:b.length<=c)(f:(Lib.join (b.map (·.data.toList)) sep.data.toList).length<=140737488355328) :
  Calls prog 227 #[.slice (some ⟨bk,o,none⟩) b.length c,sep] w λe w'=>e=.returned (.string ⟨(Lib.join (b.map (·.data.toList)) sep.data.toList).toArray⟩)/\Below w w w':=Any.strings_Join lays156 Tryz.Builder_Extra_156 bk o c b sep w a g h d f
def lays137_ren:Go.Shelf.Ren:=⟨fun|137=>244|217=>280|266=>299|n=>n,fun|9=>9|5=>5|3=>3|n=>n,fun|n=>n⟩
theorem lays137:Go.Proofs.Lays.n137 prog lays137_ren:=by constructor<;>intros<;>kernel_rfl
open RowKit in
theorem Tryz.strings_IndexByte(s:ByteArray)(c:Int)(w:World) :
  Calls prog 244 #[s,.int .u8 c] w λe w'=>e=.returned (Lib.indexByte s.data.toList c.toNat.toUInt8:Int)/\w'=w:=Any.strings_IndexByte lays137 s c w
open RowKit in
theorem Tryz.Builder_String_any_k(B b:Nat)(l:List UInt8)(w:World)(h:Lib.IsBuilderF 245 5 B b (Lib.byteCells l) w)(a:B<=w) :
  Calls prog 141 #[b] w λe w'=>e=.returned (.string ⟨l.toArray⟩)/\(Lib.IsBuilderF 245 5 B b (Lib.byteCells l) w'/\Below B w w'/\Lib.OthersKept 5 (some b) w w'):=Any.Builder_String_any_k lays169 Tryz.Builder_Extra_169 B b l w h a
def lays283_ren:Go.Shelf.Ren:=⟨fun|283=>272|n=>n,fun|3=>3|9=>9|4=>4|n=>n,fun|n=>n⟩
theorem lays283:Go.Proofs.Lays.n283 prog lays283_ren:=by constructor<;>intros<;>kernel_rfl
open Go.Lib in
theorem Tryz.internal_strconv_small(i:Nat)(h:i<100)(w:World) :
  Calls prog 272 #[(i:Int)] w λe w'=>e=.returned (.string ⟨(Lib.decDigits i).toArray⟩)/\w'=w:=Any.internal_strconv_small lays283 i h w
def laysM284_ren:Go.Shelf.Ren:=⟨fun|284=>273|129=>203|317=>294|318=>295|n=>n,fun|53=>23|3=>3|212=>396|0=>0|4=>4|46=>219|5=>5|9=>9|n=>n,fun|17=>1|n=>n⟩
theorem laysM284:Go.Proofs.LaysM.n284 prog laysM284_ren:=by constructor<;>first|(intros;kernel_rfl)|(constructor<;>intros<;>kernel_rfl)
open Go.Lib in
theorem Tryz.internal_strconv_numDigits(u : Nat)(h1 : 1 ≤ u)(h2 : u < 18446744073709551616)(w : World)(htab : Lib.TabIs prog w "internal/strconv.uint64pow10" .u64 Lib.pow10Tab) :
  Calls prog 273 #[.int .u64 u] w λe w'=>e=.returned (Lib.nDigits u:Int)/\w'=w:=Any.internal_strconv_numDigits laysM284 u h1 h2 w htab
def lays285_ren:Go.Shelf.Ren:=⟨fun|285=>274|n=>n,fun|37=>243|53=>23|3=>3|4=>4|51=>296|9=>9|5=>5|0=>0|n=>n,fun|n=>n⟩
theorem lays285:Go.Proofs.Lays.n285 prog lays285_ren:=by constructor<;>intros<;>kernel_rfl
open RowKit Go.Sort Go.Lib in
theorem Tryz.internal_strconv_formatBase10(blk off c:Nat)(u:Nat)(d:Array UInt8)(w:World)(h:Holds (λ(b:UInt8)=>Value.int .u8 (b.toNat:Int)) w blk off d)(j:u<10 ^ d.size)(a:u<18446744073709551616)(f:d.size<4611686018427387904) :
  Calls prog 274 #[.slice (some ⟨blk,off,none⟩) d.size c,.int .u64 u] w λe w'=>
   e=.returned (.tuple #[])/\∃(n i:Nat) (g:Array UInt8),w'=(putRow (λ(b:UInt8)=>Value.int .u8 (b.toNat:Int)) w blk off g).drewN n/\FmtInv d.size u 0 i g:=Any.internal_strconv_formatBase10 lays285 blk off c u d w h j a f
def laysM171_ren:Go.Shelf.Ren:=⟨fun|171=>177|243=>228|246=>271|283=>272|284=>273|285=>274|286=>275|129=>203|317=>294|318=>295|319=>296|320=>297|337=>316|338=>317|n=>n,fun|3=>3|9=>9|2=>2|4=>4|171=>373|0=>0|53=>23|37=>243|5=>5|173=>375|212=>396|51=>296|20=>20|213=>397|46=>219|232=>413|233=>414|n=>n,fun|17=>1|18=>2|19=>3|n=>n⟩
theorem laysM171:Go.Proofs.LaysM.n171 prog laysM171_ren:=by constructor<;>first|(intros;kernel_rfl)|(constructor<;>intros<;>kernel_rfl)
open RowKit Go.Sort Go.Lib in
theorem Tryz.strconv_Itoa(n : Int)(h0 : -9223372036854775808 ≤ n)(h1 : n ≤ 9223372036854775807)(w : World)(htab : Lib.TabIs prog w "internal/strconv.uint64pow10" .u64 Lib.pow10Tab) :
  Calls prog 177 #[(n:Int)] w λe w'=>e=.returned (.string ⟨(Lib.itoa n).toArray⟩)/\∃k os,w'=grow (w.drewN k) os:=Any.strconv_Itoa laysM171 n h0 h1 w htab
def lays171_ren:Go.Shelf.Ren:=⟨fun|171=>177|243=>228|246=>271|283=>272|284=>273|285=>274|286=>275|129=>203|317=>294|318=>295|319=>296|320=>297|337=>316|338=>317|n=>n,fun|3=>3|9=>9|2=>2|4=>4|171=>373|0=>0|53=>23|37=>243|5=>5|173=>375|212=>396|51=>296|20=>20|213=>397|46=>219|232=>413|233=>414|n=>n,fun|17=>1|18=>2|19=>3|n=>n⟩
theorem lays171:Go.Proofs.Lays.n171 prog lays171_ren:=by constructor<;>intros<;>kernel_rfl
open RowKit Go.Sort Go.Lib in
theorem Tryz.strconv_Itoa_small(i:Nat)(hi:i<100)(w:World) :
  Calls prog 177 #[(i:Int)] w λe w'=>e=.returned (.string ⟨(Lib.decDigits i).toArray⟩)/\w'=w:=Any.strconv_Itoa_small lays171 i hi w
def lays143_ren:Go.Shelf.Ren:=⟨fun|143=>283|219=>303|217=>280|225=>319|224=>320|267=>321|266=>299|314=>326|n=>n,fun|9=>9|3=>3|4=>4|5=>5|46=>219|146=>379|51=>296|n=>n,fun|1=>0|n=>n⟩
theorem lays143:Go.Proofs.Lays.n143 prog lays143_ren:=by constructor<;>intros<;>kernel_rfl
open RowKit Go.Lib in
theorem Tryz.strings_Index_one(s:ByteArray)(c:UInt8)(w:World) :
  Calls prog 283 #[s,.string ⟨#[c]⟩] w λe w'=>e=.returned (Lib.indexByte s.data.toList c:Int)/\w'=w:=Any.strings_Index_one lays143 s c w
def lays145_ren:Go.Shelf.Ren:=⟨fun|145=>287|220=>305|219=>303|217=>280|225=>319|224=>320|267=>321|266=>299|314=>326|n=>n,fun|9=>9|4=>4|59=>386|3=>3|5=>5|46=>219|146=>379|51=>296|n=>n,fun|1=>0|n=>n⟩
theorem lays145:Go.Proofs.Lays.n145 prog lays145_ren:=by constructor<;>intros<;>kernel_rfl
open RowKit Go.Lib in
theorem Tryz.strings_Cut(s sep:ByteArray)(m:Int)(w:World)(hs:s.size<4294967281)(a:w.cell? ⟨0,0,none⟩=some (.int .i64 m)) :
  Calls prog 287 #[s,sep] w λe w'=>e=.returned (.tuple #[.string ⟨(Lib.cut s.data.toList sep.data.toList).1.toArray⟩,.string ⟨(Lib.cut s.data.toList sep.data.toList).2.1.toArray⟩,.bool (Lib.cut s.data.toList sep.data.toList).2.2])/\∃n,w'=w.drewN n:=Any.strings_Cut lays145 s sep m w hs a
def laysM219_ren:Go.Shelf.Ren:=⟨fun|219=>303|217=>280|225=>319|224=>320|267=>321|266=>299|314=>326|n=>n,fun|9=>9|3=>3|4=>4|5=>5|46=>219|146=>379|51=>296|n=>n,fun|1=>0|n=>n⟩
theorem laysM219:Go.Proofs.LaysM.n219 prog laysM219_ren:={
 mixed:=by kernel_rfl
 f217:=func280.trans (congrArg some (by kernel_rfl))
 f219:=func303.trans (congrArg some (by kernel_rfl))
 f224:=func320.trans (congrArg some (by kernel_rfl))
 f225:=func319.trans (congrArg some (by kernel_rfl))
 f266:=func299.trans (congrArg some (by kernel_rfl))
 f267:=func321.trans (congrArg some (by kernel_rfl))
 f314:=func326.trans (congrArg some (by kernel_rfl))
 t3:=underlying3
 a3:=isAgg3
 z3:=sizeOf3
 v3:=zeroValue3
 t4:=underlying4
 a4:=isAgg4
 z4:=sizeOf4
 v4:=zeroValue4
 t5:=underlying5
 a5:=isAgg5
 z5:=sizeOf5
 v5:=zeroValue5
 t9:=underlying9
 a9:=isAgg9
 z9:=sizeOf9
 v9:=zeroValue9
 t46:=underlying219
 a46:=isAgg219
 z46:=sizeOf219
 v46:=zeroValue219
 t51:=underlying296
 a51:=isAgg296
 z51:=sizeOf296
 v51:=zeroValue296
 t146:=underlying379
 a146:=isAgg379
 z146:=sizeOf379
 v146:=zeroValue379
 g1:=by kernel_rfl
 i3:=by kernel_rfl
 i4:=by kernel_rfl
 i5:=by kernel_rfl
 i9:=by kernel_rfl
 i46:=by kernel_rfl
 i51:=by kernel_rfl
 i146:=by kernel_rfl
 m1:=by kernel_rfl
 s1_3:=λw h=>Go.Proofs.cell_of_shapedOpen_int (zero:=#[.int .i64 0]) (t:=3) h (of_decide_eq_true (by kernel_rfl)) (by kernel_rfl) rfl (by kernel_rfl) (by kernel_rfl) underlying3 }
def lays148_ren:Go.Shelf.Ren:=⟨fun|148=>188|222=>241|223=>242|269=>279|n=>n,fun|9=>9|3=>3|4=>4|5=>5|146=>379|51=>296|46=>219|n=>n,fun|n=>n⟩
theorem lays148:Go.Proofs.Lays.n148 prog lays148_ren:=by constructor<;>intros<;>kernel_rfl
open RowKit Go.Lib in
theorem Tryz.strings_LastIndex(s sub:ByteArray)(hs:s.size<4611686018427387904)(w:World) :
  Calls prog 188 #[s,sub] w λe w'=>e=.returned (Lib.lastIndex s.data.toList sub.data.toList:Int)/\w'=w:=Any.strings_LastIndex lays148 s sub hs w
def lays102_ren:Go.Shelf.Ren:=⟨fun|102=>191|209=>246|207=>284|n=>n,fun|9=>9|4=>4|3=>3|n=>n,fun|n=>n⟩
theorem lays102:Go.Proofs.Lays.n102 prog lays102_ren:=by constructor<;>intros<;>kernel_rfl
open RowKit Go.Lib in
theorem Tryz.strings_TrimSuffix(s p:ByteArray)(w:World)(hs:s.size<=9223372036854775807) :
  Calls prog 191 #[s,p] w λe w'=>e=.returned (.string ⟨(Lib.trimSuffix s.data.toList p.data.toList).toArray⟩)/\w'=w:=Any.strings_TrimSuffix lays102 s p w hs
def lays146_ren:Go.Shelf.Ren:=⟨fun|146=>190|221=>245|268=>281|138=>282|143=>283|195=>300|197=>301|218=>302|219=>303|260=>318|217=>280|225=>319|224=>320|267=>321|266=>299|314=>326|n=>n,fun|9=>9|31=>105|3=>3|4=>4|0=>0|105=>400|21=>21|5=>5|46=>219|119=>415|139=>418|138=>417|146=>379|51=>296|n=>n,fun|1=>0|3=>4|4=>5|n=>n⟩
theorem lays146:Go.Proofs.Lays.n146 prog lays146_ren:=by constructor<;>intros<;>kernel_rfl
open RowKit Go.Lib in
theorem Tryz.strings_Split(s sep:ByteArray)(m:Int)(w:World)(hs:s.size<4294967281)(b:w.cell? ⟨0,0,none⟩=some (.int .i64 m))(a:1<=sep.size) :
  Calls prog 190 #[s,sep] w λe w'=>
   e=.returned (.slice w (Lib.countB s sep+1) (Lib.countB s sep+1))/\w'=w.alloc (.cells ((Lib.splitB sep 0 (Lib.countB s sep) s).map Value.string).toArray 9):=Any.strings_Split lays146 (by kernel_rfl) s sep m w hs b a
end Go.Proofs
namespace Go.Proofs.YtjlblidnfebmiaaGreatDoor
theorem Jp(A n:Nat)(a:A<18446744073709551616):(bits BinOp.and IntKind.u64 ((A:Int) / 2 ^ n) 1 == 1)=A.testBit n:=by
 have e:((A:Int) / 2 ^ n)=((A / 2 ^ n:Nat):Int):=by simp
 have Ha:A / 2 ^ n<18446744073709551616:=Nat.lt_of_le_of_lt (Nat.div_le_self _ _) a;rw[e,show (1:Int)=((1:Nat):Int) from rfl,bits_and_u64_nat _ _ Ha (by omega),Nat.testBit_eq_decide_div_mod_eq,Nat.and_one_is_mod];rw[Bool.eq_iff_iff];simp;omega
theorem Jq(A n:Nat)(w:World)(a:A<18446744073709551616)(b:n<64) :
  Calls prog 148 #[.int .u64 A,(n:Int)] w λe w'=>e=.returned (.bool (A.testBit n))/\w'=w:=by
 have c:=Jp A n a
 go_enter func148,ntmps148
 go_wp2_with go_in
 go_ret;exact⟨rfl,rfl⟩
theorem Jr(A:Nat)(n:Int)(w:World)(a:n<0\/64<=n) :
  Calls prog 148 #[.int .u64 A,n] w λe w'=>e=.returned false/\w'=w:=by
 have key:n<0\/(0<=n/\64<=n):=by omega
 clear a
 rcases key with h|⟨b,h⟩
 all_goals
  go_enter func148,ntmps148
  go_wp2_with go_in
  go_ret;exact⟨rfl,rfl⟩
theorem Js(A k:Nat):(bm A k).length<=k:=by
 grind[bm]
theorem rL(a m q:Nat){n:Nat}(c:a<256)(d:m<256):(a+256*q) &&& (m+256*n)=(a &&& m)+256*(q &&& n):=by
 have b:∀x y:Nat,x<256->x+256*y=2 ^ 8*y ||| x:=λx y f=>by
  rw[<- Nat.two_pow_add_eq_or_of_lt (i:=8) f];omega
 have g:a &&& m<256:=Nat.lt_of_le_of_lt Nat.and_le_left c;rw[b a q c,b m n d,b _ (q &&& n) g];apply Nat.eq_of_testBit_eq;intro i;simp only[Nat.testBit_and,Nat.testBit_or,Nat.testBit_two_pow_mul]
 by_cases hi:8<=i
 ·have h:a.testBit i=false:=Nat.testBit_lt_two_pow (Q1 c (Nat.pow_le_pow_right (n:=2) (by omega) hi));have e:=Nat.testBit_lt_two_pow (Q1 d (Nat.pow_le_pow_right (n:=2) (by omega) hi))
  simp[h,e,hi]
 ·simp[hi]
def m9:Nat->Nat
 | 0=>0
 | k+1=>85+256*m9 k
def me:Nat->Nat
 | 0=>0
 | k+1=>51+256*me k
def qj:Nat->Nat
 | 0=>0
 | k+1=>15+256*qj k
def fj (k x:Nat):Nat:=(x / 2 &&& m9 k)+(x &&& m9 k)
def fx (k x:Nat):Nat:=(x / 4 &&& me k)+(x &&& me k)
def mf (k x:Nat):Nat:=(x / 16+x) &&& qj k
def jI (b:Nat):Nat:=(b / 2 &&& 85)+(b &&& 85)
def kx (b:Nat):Nat:=(b / 4 &&& 51)+(b &&& 51)
def wF (b:Nat):Nat:=(b / 16+b) &&& 15
theorem Jt:∀(b:Fin 256) (c:Fin 2),(b.val / 2+128*c.val) &&& 85=b.val / 2 &&& 85:=by decide +kernel
theorem Ju:∀(b:Fin 256) (c:Fin 4),(b.val / 4+64*c.val) &&& 51=b.val / 4 &&& 51:=by decide +kernel
theorem Jv:∀(b:Fin 256) (c:Fin 5),(kx (jI b.val) / 16+kx (jI b.val)+16*c.val) &&& 15=wF (kx (jI b.val)):=by decide +kernel
theorem ug:∀b:Fin 256,jI b.val<256/\kx (jI b.val)<69/\kx (jI b.val) % 16<=4/\wF (kx (jI b.val))<=8:=by decide +kernel
theorem Jw(k b q:Nat)(a:b<256):fj (k+1) (b+256*q)=jI b+256*fj k q:=by
 unfold fj jI;have e:(b+256*q) / 2=(b / 2+128*(q % 2))+256*(q / 2):=by omega
 rw[e,m9,rL _ 85 _ (by omega) (by omega),rL b 85 q a (by omega)];have h:=Jt ⟨b,a⟩ ⟨q % 2,by omega⟩;simp only at h;rw[h];generalize b / 2 &&& 85=c;generalize b &&& 85=f;generalize q / 2 &&& m9 k=g;generalize q &&& m9 k=d;omega
theorem Jy(k b q:Nat)(a:b<256):fx (k+1) (b+256*q)=kx b+256*fx k q:=by
 unfold fx kx;have e:(b+256*q) / 4=(b / 4+64*(q % 4))+256*(q / 4):=by omega
 rw[e,me,rL _ 51 _ (by omega) (by omega),rL b 51 q a (by omega)];have h:=Ju ⟨b,a⟩ ⟨q % 4,by omega⟩;simp only at h;rw[h];generalize b / 4 &&& 51=c;generalize b &&& 51=f;generalize q / 4 &&& me k=g;generalize q &&& me k=d;omega
theorem AN(k x:Nat):fx (k+1) (fj (k+1) x)=kx (jI (x % 256))+256*fx k (fj k (x / 256)):=by
 have a:x % 256<256:=Nat.mod_lt _ (by omega)
 conv=>lhs;rw[show x=x % 256+256*(x / 256) by omega]
 rw[Jw k _ _ a,Jy k _ _ (ug ⟨_,a⟩).1]
theorem Jz(k x:Nat):fx k (fj k x) % 16<=4:=by
 cases k with
 | zero=>simp[fx,me]
 | succ k=>
  have a:x % 256<256:=Nat.mod_lt _ (by omega);have h:=(ug ⟨x % 256,a⟩).2.2.1;rw[AN];simp only at h;omega
def qk (k x:Nat):Nat:=mf k (fx k (fj k x))
def rM (b:Nat):Nat:=wF (kx (jI b))
theorem nh(k x:Nat):qk (k+1) x=rM (x % 256)+256*qk k (x / 256):=by
 have b:x % 256<256:=Nat.mod_lt _ (by omega);unfold qk rM;rw[AN];have d:=Jz k (x / 256);generalize hQ:fx k (fj k (x / 256))=Q at d ⊢;have c:=(ug ⟨x % 256,b⟩).2.1;have a:=Jv ⟨x % 256,b⟩ ⟨Q % 16,by omega⟩;simp only at c a;generalize kx (jI (x % 256))=F at c a ⊢;unfold mf;have e:(F+256*Q) / 16+(F+256*Q)=(F / 16+F+16*(Q % 16))+256*(Q / 16+Q):=by omega
 rw[e,qj,rL _ 15 _ (by omega) (by omega),a]
theorem JA(b q i:Nat)(a:b<256):(b+256*q).testBit i=if i<8 then b.testBit i else q.testBit (i - 8):=by
 have e:b+256*q=2 ^ 8*q+b:=by omega
 rw[e,Nat.testBit_two_pow_mul_add q (i:=8) a]
theorem JB(b q k:Nat)(a:b<256):(bm (b+256*q) (8+k)).length=(bm b 8).length+(bm q k).length:=by
 induction k with
 | zero=>
  have:bm (b+256*q) (8+0)=bm b 8:=by
   unfold bm;apply List.filter_congr;intro i hi;rw[JA b q i a,if_pos (by simpa using hi)]
  rw[this];rfl
 | succ k ih=>
  show (bm (b+256*q) ((8+k)+1)).length=_
  have e:(b+256*q).testBit (8+k)=q.testBit k:=by
   grind
  rw[oO,oO q,e]
  by_cases h:q.testBit k=true
  ·grind
  ·grind
theorem JC:∀b:Fin 256,rM b.val=(bm b.val 8).length:=by decide +kernel
theorem ni(x k:Nat):(bm x (8+k)).length=rM (x % 256)+(bm (x / 256) k).length:=by
 have a:x % 256<256:=Nat.mod_lt _ (by omega)
 conv=>lhs;rw[show x=x % 256+256*(x / 256) by omega]
 rw[JB _ _ k a,<- JC ⟨_,a⟩]
theorem nj(x:Nat):rM (x % 256)<=8:=(ug ⟨x % 256,Nat.mod_lt _ (by omega)⟩).2.2.2
theorem AO(x:Nat):∃a b c d e f g h:Nat,a<=8/\b<=8/\c<=8/\d<=8/\e<=8/\f<=8/\g<=8/\h<=8/\
  qk 8 x=a+256*(b+256*(c+256*(d+256*(e+256*(f+256*(g+256*h))))))/\(bm x 64).length=a+b+c+d+e+f+g+h:=by
 refine⟨_,_,_,_,_,_,_,_,nj x,nj (x / 256),nj (x / 256 / 256),nj (x / 256 / 256 / 256),nj (x / 256 / 256 / 256 / 256),nj (x / 256 / 256 / 256 / 256 / 256),nj (x / 256 / 256 / 256 / 256 / 256 / 256),nj (x / 256 / 256 / 256 / 256 / 256 / 256 / 256),?_,?_⟩
 ·rw[nh,nh,nh,nh,nh,nh,nh,nh]
  have:∀y,qk 0 y=0:=λy=>by simp[qk,mf,qj]
  rw[this,Nat.mul_zero,Nat.add_zero]
 ·rw[ni x 56,ni (x / 256) 48,ni (x / 256 / 256) 40,ni (x / 256 / 256 / 256) 32,ni (x / 256 / 256 / 256 / 256) 24,ni (x / 256 / 256 / 256 / 256 / 256) 16,ni (x / 256 / 256 / 256 / 256 / 256 / 256) 8,ni (x / 256 / 256 / 256 / 256 / 256 / 256 / 256) 0]
  have:∀y,(bm y 0).length=0:=λy=>rfl
  rw[this];omega
structure ap where
 core:Int
 sock:Int
 node:Int
deriving DecidableEq
def aA:ap:=⟨0,0,0⟩
def cS (p:ap->Bool) (l:List ap):Nat->Nat
 | 0=>0
 | k+1=>if p (l.getD k aA) then cS p l k ||| 2 ^ k else cS p l k
theorem rN{p:ap->Bool}{l:List ap}{k:Nat}(h:p (l.getD k aA)=true):cS p l (k+1)=cS p l k ||| 2 ^ k:=by rw[cS,if_pos h]
theorem rO{p:ap->Bool}{l:List ap}{k:Nat}(h:p (l.getD k aA)=false):cS p l (k+1)=cS p l k:=by grind[cS]
def aB (p:ap->Bool) (l:List ap):Nat:=cS p l l.length
theorem AP(p:ap->Bool)(l:List ap){k:Nat}(i:Nat):(cS p l k).testBit i=(decide (i<k) && p (l.getD i aA)):=by induction k <;> grind[cS,aA,rN,rO]
theorem jJ(p:ap->Bool)(l:List ap)(k:Nat)(a:k<=64):cS p l k<18446744073709551616:=by
 apply Nat.lt_pow_two_of_testBit (n:=64);intro i hi;rw[AP]
 simp[show ¬ i<k by omega]
theorem wG(p:ap->Bool)(l:List ap)(i:Nat):(aB p l).testBit i=(decide (i<l.length) && p (l.getD i aA)):=AP p l i
theorem two(b:Bool):b=true\/b=false:=by cases b <;> simp
theorem qI{p:Prop}(h:p):Hu p:=h
def aD (n:Int):Value:=if n=0 then .nilIface else .iface 108 n
theorem below_drewN{B:Nat}{a w:World}(h:Below B a w)(n:Nat):Below B a (w.drewN n):=⟨h.os,h.tape,h.output,h.size,h.block⟩
theorem rP(s n:Nat)(hs:s<18446744073709551616)(c:n<64):bits BinOp.or IntKind.u64 (s:Int) (IntKind.u64.wrap (2 ^ n))=((s ||| 2 ^ n:Nat):Int):=by
 have b:2 ^ n<18446744073709551616:=Nat.pow_lt_pow_right (a:=2) (by omega) c;rw[show (2 ^ n:Int)=((2 ^ n:Nat):Int) by simp];generalize 2 ^ n=q at b ⊢;rw[IntKind.wrap_u64,show (q:Int) % 18446744073709551616=(q:Int) by omega];exact bits_or_u64_nat s q hs b
theorem JD(A n:Nat)(a:A<18446744073709551616):(bits BinOp.and IntKind.u64 ((A:Int) / 2 ^ n) 1 == 1)=A.testBit n:=by
 have e:((A:Int) / 2 ^ n)=((A / 2 ^ n:Nat):Int):=by simp
 have Ha:A / 2 ^ n<18446744073709551616:=Nat.lt_of_le_of_lt (Nat.div_le_self _ _) a;rw[e,show (1:Int)=((1:Nat):Int) from rfl,bits_and_u64_nat _ _ Ha (by omega),Nat.testBit_eq_decide_div_mod_eq,Nat.and_one_is_mod];rw[Bool.eq_iff_iff];simp;omega
theorem rQ{fn:Func}{p:Tmp}{b:TypeId}(h:fn.results=#[.cell p b])(tmps:Array Value)(P:Program)(w:World) :
  (results fn tmps).run P w=((asAddr (tmps.getD p undef)).run P w).andThen λa c=>(loadVar b a).run P c:=by
 simp_all[results]
structure Sd where
 ft:Bool
 fb:ByteArray
 dt:Bool
 db:ByteArray
def Sd.agg (s:Sd):Value:=.agg #[s.ft,s.fb,s.dt,s.db]
structure Chg where
 wr:Bool
 bs:ByteArray
def Chg.agg (c:Chg):Value:=.agg #[c.wr,c.bs]
def Chg.on (c:Chg) (s:Sd):Sd:=if c.wr=true then ⟨s.ft,s.fb,true,c.bs⟩ else ⟨s.dt,s.db,false,⟨#[]⟩⟩
theorem wH(c:Chg)(s:Sd)(w:World):CB 33 #[c.agg,s.agg] w (c.on s).agg:=by
 obtain⟨wr,bs⟩:=c;obtain⟨ft,fb,dt,db⟩:=s;unfold Chg.agg Sd.agg;dsimp only;have a:=(((Q0 w w).alloc (lR) (.cells #[wr,bs] 111)).alloc (by simp) (.cells #[ft,fb,dt,db] 93));cases wr with
 | true=>
  have b:=qI (a.alloc a.size (.cells #[ft,fb,true,bs] 93));clear a
  go_enter func33,ntmps33
  go_wp2
  refine bodyPost_ret (v:=.agg #[ft,fb,true,bs]) ?_ rfl ⟨rfl,b⟩;rw[rQ rfl];go_simp
 | false=>
  have b:=qI (a.alloc a.size (.cells #[dt,db,false,.string ⟨#[]⟩] 93));clear a
  go_enter func33,ntmps33
  go_wp2
  refine bodyPost_ret (v:=.agg #[dt,db,false,.string ⟨#[]⟩]) ?_ rfl ⟨rfl,b⟩;rw[rQ rfl];go_simp
theorem JE(s:ByteArray)(k:Nat)(a:k<s.data.toList.length):s.data.toList[k]=s[k]'(by simpa using a):=by simp[ByteArray.getElem_eq_getElem_data]
theorem JF(s:ByteArray)(w:World)(hs:s.size<=maxLen) :
  CE 183 #[s] w (.int .u32 (gT s.data.toList:Nat)):=by
 unfold maxLen at hs;have g:Hu (s.data.toList.length=s.size):=by unfold Hu;simp
 go_enter func183,ntmps183
 go_wp2
 go_loop [3,7] (λh i=>∃k:Nat,k<=s.size/\i=.int .i64 k/\h=.int .u32 (gT (s.data.toList.take k):Nat)) (λ_ i=>s.size - (intOf i).toNat)
 exact⟨0,by omega,rfl,by simp[gT]⟩
 ·obtain⟨k,n,rfl,rfl⟩:=hrel
  by_cases a:k<s.size
  ·have Ha:k<s.data.toList.length:=by rw[g.o];exact a
   have b:=qI (IR Ha);rw[JE s k Ha] at b;have d:=wu (s.data.toList.take k);generalize gT (s.data.toList.take k)=H at *;have f:s[k].toNat<4294967296:=by have:=s[k].toNat_lt;omega
   have m:=IT d f;have j:=IU H s[k]
   go_wp2
   go_round
   exact⟨k+1,by omega,rfl,by rw[b.o]⟩
   simp[intOf];omega
  ·have Hb:k=s.size:=by omega
   subst Hb;have c:Hu (s.data.toList.take s.size=s.data.toList):=by grind[Hu]
   go_wp2
   go_ret;exact⟨congrArg (λl=>Ending.returned (.int .u32 (gT l:Nat))) c,rfl⟩
