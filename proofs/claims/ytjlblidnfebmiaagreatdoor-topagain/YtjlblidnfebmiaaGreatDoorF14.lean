import Derived.Test.YtjlblidnfebmiaaGreatDoorF8
import Derived.Test.YtjlblidnfebmiaaGreatDoorF2
import Derived.Deep.RegionWith
import Derived.Lib.ItoaLen
set_option maxRecDepth 100000
set_option maxHeartbeats 16000000
open Go Go.RowKit
open Go.Proofs.Tryz
namespace Go.Proofs.YtjlblidnfebmiaaGreatDoor
variable{w w':World}
def tJ (n:Int):Value:=if n=0 then .nilIface else .iface 108 n
theorem nY(s:ByteArray)(m:Int)(w:World)(hs:s.size<=maxLen)(h:cT m s.data.toList=true) :
  Calls prog 285 #[s,m] w λe w'=>e=.returned (.tuple #[(bM s.data.toList:Int),true])/\w'=w:=by
 have:=vI s m w hs
 rw[Ai h] at this;exact this
theorem qW(s:ByteArray)(m:Int)(w:World)(hs:s.size<=maxLen)(h:cT m s.data.toList=false) :
  Calls prog 285 #[s,m] w λe w'=>e=.returned (.tuple #[(0:Int),false])/\w'=w:=by
 have:=vI s m w hs
 rw[oZ h] at this;exact this

theorem NL(s p:List UInt8):(Lib.trimSuffix s p).length<=s.length:=by
 unfold Lib.trimSuffix;split
 ·simp
 ·exact lR
theorem wW(c:UInt8)(l:List UInt8):(aT c l).1.length<=l.length/\(aT c l).2.1.length<=l.length:=by
 rcases uO c l with⟨_,h⟩|⟨i,_,h⟩ <;> rw[h] <;> simp <;> omega

def cS (w:World):Prop:=∃m:Int,w.cell? ⟨0,0,none⟩=some (.int .i64 m)
theorem cS.below(h:cS w)(b:Below w w w'):cS w':=by
 obtain⟨m,a⟩:=h;exact⟨m,(b.cell (p:=⟨0,0,none⟩) (Q3 w _ a)).trans a⟩
theorem wX(s:ByteArray)(c:UInt8)(w:World)(hs:s.size<4294967281)(a:cS w) :
  Calls prog 287 #[s,.string ⟨#[c]⟩] w λe w'=>e=.returned (.tuple #[.string ⟨(aT c s.data.toList).1.toArray⟩,.string ⟨(aT c s.data.toList).2.1.toArray⟩,.bool (aT c s.data.toList).2.2])/\∃n,w'=w.drewN n:=by
 obtain⟨m,a⟩:=a
 have:=Tryz.strings_Cut s ⟨#[c]⟩ m w hs a
 rw[show Lib.cut s.data.toList (ByteArray.mk #[c]).data.toList=aT c s.data.toList from Gd c _] at this;exact this
theorem qX(s:ByteArray)(c:UInt8)(w:World)(hs:s.size<4294967281)(a:cS w)(h:(aT c s.data.toList).2.2=true) :
  Calls prog 287 #[s,.string ⟨#[c]⟩] w λe w'=>e=.returned (.tuple #[.string ⟨(aT c s.data.toList).1.toArray⟩,.string ⟨(aT c s.data.toList).2.1.toArray⟩,true])/\∃n,w'=w.drewN n:=by
 have:=wX s c w hs a
 rw[h] at this;exact this
theorem Cp(s:ByteArray)(c:UInt8)(w:World)(hs:s.size<4294967281)(a:cS w)(h:(aT c s.data.toList).2.2=false) :
  Calls prog 287 #[s,.string ⟨#[c]⟩] w λe w'=>e=.returned (.tuple #[.string ⟨(aT c s.data.toList).1.toArray⟩,.string ⟨(aT c s.data.toList).2.1.toArray⟩,false])/\∃n,w'=w.drewN n:=by
 have:=wX s c w hs a
 rw[h] at this;exact this

theorem mL(b:Bool):b=true\/b=false:=by cases b <;> simp
theorem dX{p:Prop}(h:p):Hu p:=h
theorem NM(s n:Nat)(hs:s<18446744073709551616)(c:n<64):bits BinOp.or IntKind.u64 (s:Int) (IntKind.u64.wrap (2 ^ n))=((s ||| 2 ^ n:Nat):Int):=by
 have b:2 ^ n<18446744073709551616:=Nat.pow_lt_pow_right (a:=2) (by omega) c;rw[show (2 ^ n:Int)=((2 ^ n:Nat):Int) by simp];generalize 2 ^ n=q at b ⊢;rw[IntKind.wrap_u64,show (q:Int) % 18446744073709551616=(q:Int) by omega];exact bits_or_u64_nat s q hs b
theorem Cq(a b:Nat)(c:a<18446744073709551616)(d:b<18446744073709551616):a ||| b<18446744073709551616:=Nat.or_lt_two_pow (n:=64) c d
theorem NN(n:Nat)(h:n<64):2 ^ n<18446744073709551616:=Nat.pow_lt_pow_right (a:=2) (by omega) h
def mM (p:Nat × Int):Value:=.tuple #[.int .u64 (p.1:Nat),tJ p.2]
def kf (w : World) : Prop := Lib.TabIs prog w "internal/strconv.uint64pow10" .u64 Lib.pow10Tab
theorem tK : prog.globalNamed "internal/strconv.uint64pow10" = some 1 := by kernel_rfl
theorem kf.below(h:kf w)(a:Below w w w')(b:1<w.heap.size):kf w':=var?_below a tK b h
theorem Cr(B:Nat)(w:World)(a:B<=w)(k:Nat)(os:Array Obj):Below B w (Sort.grow (w.drewN k) os):=
 ⟨rfl,rfl,rfl,by simp[Sort.grow],λi hi=>by
  show (w.heap++os)[i]?=_
  rw[Array.getElem?_append_left (by omega)]⟩
def NO (n:Int):List UInt8:=Lib.decDigits n.toNat
theorem Cs(n:Int)(w:World)(d:0<=n)(a:n<=9223372036854775807)(c:kf w) :
  Calls prog 177 #[n] w λe w'=>e=.returned (.string ⟨(NO n).toArray⟩)/\Below w w w':=by
 refine (Tryz.strconv_Itoa n (by omega) a w c).mono ?_;rintro e w' ⟨b,k,os,rfl⟩;refine⟨?_,Cr _ w (lR) k os⟩;rw[b,Lib.itoa,if_neg (by omega)];rfl
