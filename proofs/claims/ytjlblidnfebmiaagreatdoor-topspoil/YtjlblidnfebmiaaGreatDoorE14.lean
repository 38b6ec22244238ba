import Derived.Test.YtjlblidnfebmiaaGreatDoorE8
import Derived.Test.YtjlblidnfebmiaaGreatDoorE2
import Derived.Deep.RegionWith
import Derived.Lib.ItoaLen
set_option maxRecDepth 100000
set_option maxHeartbeats 16000000
open Go Go.RowKit
open Go.Proofs.Tryz
namespace Go.Proofs.YtjlblidnfebmiaaGreatDoor
variable {w w':World}
def sW (n:Int):Value:=if n=0 then .nilIface else .iface 108 n
theorem nL (s:ByteArray) (m:Int) (w:World) (hs:s.size<=maxLen) (h:cQ m s.data.toList=true) :
  Calls prog 285 #[s,m] w λe w'=>e=.returned (.tuple #[(bG s.data.toList:Int),true])/\w'=w:=by
 have:=uZ s m w hs
 rw [zL h] at this;exact this
theorem qB (s:ByteArray) (m:Int) (w:World) (hs:s.size<=maxLen) (h:cQ m s.data.toList=false) :
  Calls prog 285 #[s,m] w λe w'=>e=.returned (.tuple #[(0:Int),false])/\w'=w:=by
 have:=uZ s m w hs
 rw [oK h] at this;exact this

theorem MW (s p:List UInt8):(Lib.trimSuffix s p).length<=s.length:=by
 unfold Lib.trimSuffix;split
 ·simp
 ·exact lR
theorem wB (c:UInt8) (l:List UInt8):(aS c l).1.length<=l.length/\(aS c l).2.1.length<=l.length:=by
 rcases ur c l with ⟨_,h⟩|⟨i,_,h⟩ <;> rw [h] <;> simp <;> omega

def cO (w:World):Prop:=∃ m:Int,w.cell? ⟨0,0,none⟩=some (.int .i64 m)
theorem cO.below (h:cO w) (b:Below w w w'):cO w':=by
 obtain ⟨m,a⟩:=h;exact ⟨m,(b.cell (p:=⟨0,0,none⟩) (Q3 w _ a)).trans a⟩
theorem wC (s:ByteArray) (c:UInt8) (w:World) (hs:s.size<4294967281) (a:cO w) :
  Calls prog 287 #[s,.string ⟨#[c]⟩] w λe w'=>e=.returned (.tuple #[.string ⟨(aS c s.data.toList).1.toArray⟩,.string ⟨(aS c s.data.toList).2.1.toArray⟩,.bool (aS c s.data.toList).2.2])/\∃ n,w'=w.drewN n:=by
 obtain ⟨m,a⟩:=a
 have:=Tryz.strings_Cut s ⟨#[c]⟩ m w hs a
 rw [show Lib.cut s.data.toList (ByteArray.mk #[c]).data.toList=aS c s.data.toList from FC c _] at this;exact this
theorem qC (s:ByteArray) (c:UInt8) (w:World) (hs:s.size<4294967281) (a:cO w) (h:(aS c s.data.toList).2.2=true) :
  Calls prog 287 #[s,.string ⟨#[c]⟩] w λe w'=>e=.returned (.tuple #[.string ⟨(aS c s.data.toList).1.toArray⟩,.string ⟨(aS c s.data.toList).2.1.toArray⟩,true])/\∃ n,w'=w.drewN n:=by
 have:=wC s c w hs a
 rw [h] at this;exact this
theorem BV (s:ByteArray) (c:UInt8) (w:World) (hs:s.size<4294967281) (a:cO w) (h:(aS c s.data.toList).2.2=false) :
  Calls prog 287 #[s,.string ⟨#[c]⟩] w λe w'=>e=.returned (.tuple #[.string ⟨(aS c s.data.toList).1.toArray⟩,.string ⟨(aS c s.data.toList).2.1.toArray⟩,false])/\∃ n,w'=w.drewN n:=by
 have:=wC s c w hs a
 rw [h] at this;exact this

theorem mz (b:Bool):b=true\/b=false:=by cases b <;> simp
theorem dS {p:Prop} (h:p):Hu p:=h
theorem MX (s n:Nat) (hs:s<18446744073709551616) (c:n<64):bits BinOp.or IntKind.u64 (s:Int) (IntKind.u64.wrap (2 ^ n))=((s ||| 2 ^ n:Nat):Int):=by
 have b:2 ^ n<18446744073709551616:=Nat.pow_lt_pow_right (a:=2) (by omega) c;rw [show (2 ^ n:Int)=((2 ^ n:Nat):Int) by simp];generalize 2 ^ n=q at b ⊢;rw [IntKind.wrap_u64,show (q:Int) % 18446744073709551616=(q:Int) by omega];exact bits_or_u64_nat s q hs b
theorem BW (a b:Nat) (d:a<18446744073709551616) (c:b<18446744073709551616):a ||| b<18446744073709551616:=Nat.or_lt_two_pow (n:=64) d c
theorem MY (n:Nat) (h:n<64):2 ^ n<18446744073709551616:=Nat.pow_lt_pow_right (a:=2) (by omega) h
def mA (p:Nat × Int):Value:=.tuple #[.int .u64 (p.1:Nat),sW p.2]
def jR (w : World) : Prop := Lib.TabIs prog w "internal/strconv.uint64pow10" .u64 Lib.pow10Tab
theorem sX : prog.globalNamed "internal/strconv.uint64pow10" = some 1 := by kernel_rfl
theorem jR.below (h:jR w) (a:Below w w w') (b:1<w.heap.size):jR w':=var?_below a sX b h
theorem BX (B:Nat) (w:World) (a:B<=w) (k:Nat) (os:Array Obj):Below B w (Sort.grow (w.drewN k) os):=
 ⟨rfl,rfl,rfl,by simp [Sort.grow],λi hi=>by
  show (w.heap++os)[i]?=_
  rw [Array.getElem?_append_left (by omega)]⟩
def MZ (n:Int):List UInt8:=Lib.decDigits n.toNat
theorem BY (n:Int) (w:World) (d:0<=n) (b:n<=9223372036854775807) (a:jR w) :
  Calls prog 177 #[n] w λe w'=>e=.returned (.string ⟨(MZ n).toArray⟩)/\Below w w w':=by
 refine (Tryz.strconv_Itoa n (by omega) b w a).mono ?_;rintro e w' ⟨c,k,os,rfl⟩;refine ⟨?_,BX _ w (lR) k os⟩;rw [c,Lib.itoa,if_neg (by omega)];rfl
