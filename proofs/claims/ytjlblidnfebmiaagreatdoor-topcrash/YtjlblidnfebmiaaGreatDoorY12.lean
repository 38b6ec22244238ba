import Derived.Test.YtjlblidnfebmiaaGreatDoorY11
import Derived.Test.YtjlblidnfebmiaaGreatDoorY3
import Derived.Deep.RegionWith
import Derived.Lib.ItoaLen
set_option maxRecDepth 100000
set_option maxHeartbeats 16000000
open Go Go.RowKit
open Go.Proofs.Tryz
namespace Go.Proofs.YtjlblidnfebmiaaGreatDoor
variable{w w':World}
def uH (n:Int):Value:=if n=0 then .nilIface else .iface 108 n
theorem pq{s:ByteArray}{m:Int}{w:World}(hs:s.size<=maxLen)(h:dA m s.data.toList=true) :
  Calls pg 285 #[.string s,.int .i64 m] w λe w'=>e=.returned (.tuple #[.int .i64 (bX s.data.toList),.bool true])/\w'=w:=by
 grind[xB,Cv]
theorem sx{s:ByteArray}{m:Int}{w:World}(hs:s.size<=maxLen)(h:dA m s.data.toList=false) :
  Calls pg 285 #[.string s,.int .i64 m] w λe w'=>e=.returned (.tuple #[.int .i64 0,.bool false])/\w'=w:=by
 grind[xB,qE]

theorem Mn(s p:List UInt8):(Lib.trimSuffix s p).length<=s.length:=by
 unfold Lib.trimSuffix;split
 ·simp
 ·exact lR
theorem xC(c:UInt8)(l:List UInt8):(be c l).1.length<=l.length/\(be c l).2.1.length<=l.length:=by
 rcases ww c l with⟨_,h⟩|⟨i,_,h⟩ <;> rw[h] <;> simp <;> omega

def dH (w:World):Prop:=∃m:Int,w.cell? ⟨0,0,none⟩=some (.int .i64 m)
theorem dH.below(h:dH w)(b:Bw w w'):dH w':=by
 obtain⟨m,a⟩:=h;exact⟨m,(b.cell (p:=⟨0,0,none⟩) (Q3 w _ a)).trans a⟩
theorem xD(s:ByteArray)(c:UInt8)(w:World)(hs:s.size<4294967281)(a:dH w) :
  Calls pg 287 #[.string s,.string ⟨#[c]⟩] w λe w'=>e=.returned (.tuple #[.string ⟨(be c s.data.toList).1.toArray⟩,.string ⟨(be c s.data.toList).2.1.toArray⟩,.bool (be c s.data.toList).2.2])/\∃n,w'=w.drewN n:=by
 obtain⟨m,a⟩:=a
 have:=Tryz.strings_Cut s ⟨#[c]⟩ m w hs a
 rw[show Lib.cut s.data.toList (ByteArray.mk #[c]).data.toList=be c s.data.toList from I6 c] at this;exact this
theorem sy(s:ByteArray){c:UInt8}{w:World}(hs:s.size<4294967281)(a:dH w)(h:(be c s.data.toList).2.2=true) :
  Calls pg 287 #[.string s,.string ⟨#[c]⟩] w λe w'=>e=.returned (.tuple #[.string ⟨(be c s.data.toList).1.toArray⟩,.string ⟨(be c s.data.toList).2.1.toArray⟩,true])/\∃n,w'=w.drewN n:=by
 grind[xD]
theorem Cw(s:ByteArray){c:UInt8}{w:World}(hs:s.size<4294967281)(a:dH w)(h:(be c s.data.toList).2.2=false) :
  Calls pg 287 #[.string s,.string ⟨#[c]⟩] w λe w'=>e=.returned (.tuple #[.string ⟨(be c s.data.toList).1.toArray⟩,.string ⟨(be c s.data.toList).2.1.toArray⟩,false])/\∃n,w'=w.drewN n:=by
 grind[xD]

theorem nL(b:Bool):b=true\/b=false:=by cases b <;> simp
theorem ev{p:Prop}(h:p):Hu p:=h
theorem Mo(s n:Nat)(hs:s<18446744073709551616)(c:n<64):bits BinOp.or IntKind.u64 (s:Int) (IntKind.u64.wrap (2 ^ n))=((s ||| 2 ^ n:Nat):Int):=by
 have b:2 ^ n<18446744073709551616:=Nat.pow_lt_pow_right (a:=2) (by omega) c;rw[show (2 ^ n:Int)=((2 ^ n:Nat):Int) by simp];generalize 2 ^ n=q at b ⊢;rw[IntKind.wrap_u64,show (q:Int) % 18446744073709551616=(q:Int) by omega];exact bits_or_u64_nat s q hs b
theorem Cx(a b:Nat)(d:a<18446744073709551616)(c:b<18446744073709551616):a ||| b<18446744073709551616:=Nat.or_lt_two_pow (n:=64) d c
theorem Mp(n:Nat)(h:n<64):2 ^ n<18446744073709551616:=Nat.pow_lt_pow_right (a:=2) (by omega) h
def nM (p:Nat × Int):Value:=.tuple #[.int .u64 (p.1:Nat),uH p.2]
def kG (w : World) : Prop := Lib.TabIs prog w "internal/strconv.uint64pow10" .u64 Lib.pow10Tab
theorem uI : prog.globalNamed "internal/strconv.uint64pow10" = some 1 := by kernel_rfl
theorem kG.below(h:kG w)(b:Bw w w')(a:1<w.heap.size):kG w':=var?_below b uI a h
theorem Cy{B:Nat}(w:World)(a:B<=w)(k:Nat)(os:Array Obj):Below B w (Sort.grow (w.drewN k) os):=
 ⟨rfl,rfl,rfl,by simp[Sort.grow],λi hi=>by
  show (w.heap++os)[i]?=_
  rw[Array.getElem?_append_left (by omega)]⟩
def Mq (n:Int):List UInt8:=Lib.decDigits n.toNat
theorem Cz(n:Int){w:World}(d:0<=n)(b:n<=9223372036854775807)(c:kG w) :
  CB 177 #[n] w (.string ⟨(Mq n).toArray⟩):=by
 refine (Tryz.strconv_Itoa n (by omega) b w c).mono ?_;rintro e w' ⟨a,k,os,rfl⟩;refine⟨?_,Cy w (lR) k os⟩;rw[a,Lib.itoa,if_neg (by omega)];rfl
