/- EMath, EV1, EMath2, EMath5, EV2 -/
import Derived.Test.YtbmmnflgnmjboaaGreatDoorQ9
import Derived.Sort.Statements
import Derived.WideShapes
import Derived.WideAt
import Derived.Shelf.SlicesG.Cmp
import Derived.Ground.SlgcProg
import Derived.Maps.OwnSet
import Derived.StringKeys
set_option maxRecDepth 100000
set_option maxHeartbeats 16000000
namespace Go.Proofs.YtbmmnflgnmjboaaGreatDoor
section
namespace Qos
open Go.Sort
def usedOf (us:List Nd) (nm:ByteArray):Int:=((us.find? fun u=>decide (u.kind=nm)).map Nd.many).getD 0
structure Key where
 ab:Int
 pr:Int
 nm:ByteArray
instance:Inhabited Key:=⟨⟨0,0,ByteArray.empty⟩⟩
def turnOf (x:Int):Int:=if 0<x then 0 else 1
def ltS (a b:ByteArray):Bool:=Op.bytesLess a.toList b.toList
def cmpS (a b:ByteArray):Int:=if ltS a b=true then -1 else if ltS b a=true then 1 else 0
def orI (a b:Int):Int:=if a=0 then b else a
def keyCmp (a b:Key):Int:=orI (Lib.compareInt (turnOf a.ab) (turnOf b.ab)) (orI (Lib.compareInt a.pr b.pr) (orI (Lib.compareInt b.ab a.ab) (cmpS a.nm b.nm)))
def keyLt (a b:Key):Bool:=decide (keyCmp a b<0)
def key (us:List Nd) (p:Pd):Key:=⟨usedOf us p.nm - sumB p.cs p.cs.length,p.pr,p.nm⟩
theorem less_before:∀ a b:List UInt8,Op.bytesLess a b=bytesBefore a b
 | [],[]=>rfl
 | _ :: _,[]=>rfl
 | [],_ :: _=>rfl
 | a :: x,b :: y=>by rw [Op.bytesLess,bytesBefore,less_before x y]
def one (b:Bool):Int:=if b=true then 1 else 0
theorem one_in (b:Bool):one b=0∨one b=1:=by cases b <;> simp [one]
theorem ltS_irrefl (a:ByteArray):one (ltS a a)=0:=by simp [one,ltS,less_before,WideAt.bytes_irrefl]
theorem ltS_trans (a b c:ByteArray):one (ltS a b)=1→one (ltS b c)=1→one (ltS a c)=1:=by
 simp only [one,ltS,less_before];intro h1 h2;have h1':bytesBefore a.toList b.toList=true:=by
  rcases Bool.eq_false_or_eq_true (bytesBefore a.toList b.toList) with h|h
  ·exact h
  ·rw [h] at h1;cases h1
 have h2':bytesBefore b.toList c.toList=true:=by
  rcases Bool.eq_false_or_eq_true (bytesBefore b.toList c.toList) with h|h
  ·exact h
  ·rw [h] at h2;cases h2
 rw [WideShapes.bytes_trans _ _ _ h1' h2'];rfl
theorem str_ext {a b:ByteArray} (h:a.toList=b.toList):a=b:=by
 rw [ByteArray.toList_eq,ByteArray.toList_eq] at h;exact ByteArray.ext (Array.toList_inj.mp h)
theorem ltS_total (a b:ByteArray):one (ltS a b)=0→one (ltS b a)=0→a=b:=by
 simp only [one,ltS,less_before];intro h1 h2
 by_cases e:a.toList=b.toList
 ·exact str_ext e
 ·rcases WideAt.bytes_total _ _ e with h|h
  ·rw [h] at h1;cases h1
  ·rw [h] at h2;cases h2
theorem ltS_asymm (a b:ByteArray):one (ltS a b)=1→one (ltS b a)=0:=by
 intro h
 rcases one_in (ltS b a) with g|g
 ·exact g
 ·have:=ltS_trans a b a h g
  rw [ltS_irrefl] at this;cases this
theorem ltS_ntrans (a b c:ByteArray):one (ltS a b)=0→one (ltS b c)=0→one (ltS a c)=0:=by
 intro h1 h2
 rcases one_in (ltS a c) with g|g
 ·exact g
 rcases one_in (ltS b a) with k|k
 ·rw [ltS_total a b h1 k] at g;omega
 ·have:=ltS_trans b a c k g;omega
def tail (us:List Nd) (l:List Pd) (i:Nat):Int:=((l.drop i).map fun p=>usedOf us p.nm).sum
structure Least (us:List Nd) (l:List Pd) (most:Int) (i g:Nat):Prop where
 lo:i≤g
 hi:g≤l.length
 no:∀ j,i≤j→j<g→most<tail us l j
 yes:g<l.length→tail us l g≤most
end Qos
end
end Go.Proofs.YtbmmnflgnmjboaaGreatDoor
namespace Go.Proofs
open Go.Shelf
shelf_lay_g SlLaysC2.n5 Slgc 5 at Tryz 148 as Tryz.cmpL2
end Go.Proofs
namespace Go.Proofs.YtbmmnflgnmjboaaGreatDoor
section
open Go.RowKit
open Qos (Nd Pd turnOf ltS cmpS orI)
end
section
namespace Qos
def kyAt (us:List Nd) (ps:List Pd) (j:Nat):Key:=key us (pd ps j)
structure Sel (us:List Nd) (ps:List Pd) (D:Nat→Bool) (out:List Nat):Prop where
 nodup:out.Nodup
 mem:∀ j,j∈out↔(j<ps.length∧D j=true)
 srt:out.Pairwise fun a b=>keyLt (kyAt us ps b) (kyAt us ps a)=false
 ahead:∀ a,a∈out→∀ j,j<ps.length→D j=false→keyLt (kyAt us ps j) (kyAt us ps a)=false
end Qos
end
section
namespace Qos
def allOf (us:List Nd) (ps:List Pd) (n:Nat):Int:=sumTo (fun k=>usedOf us (pd ps k).nm) n
def Tame (us:List Nd):Prop:=∀ k,k<us.length→-1125899906842624≤(nd us k).many∧(nd us k).many≤1125899906842624
end Qos
end
section
open Go.RowKit Go.ChangeMaps
open Go.Maps (Keyed)
open Qos (Nd nd usedOf Tame)
theorem keyLawS:Keyed Tryz.prog 9:=Go.Maps.string_keyed Tryz.underlying9
theorem zeroIntE (w:World):(zeroValue 3).run Tryz.prog w=.ok (.int .i64 0) w:=by kernel_rfl
def UseMap (w:World) (B n:Nat) (us:List Nd):Prop:=
 ∃ D:DataW Unit,w.ownsMap Tryz.prog 9 (plainElem Tryz.prog 3) B n D∧∀ s:ByteArray,D.atKey (.string s.data.toList) (.lit (.int .i64 0))=.lit (.int .i64 (usedOf us s))∧Go.Maps.has D (.string s.data.toList)=us.any fun u=>decide (u.kind=s)
theorem take_nd {us:List Nd} {k:Nat} (h:k<us.length):us.take (k+1)=us.take k++[nd us k]:=by
 rw [List.take_add_one,nd,List.getD_eq_getElem?_getD,List.getElem?_eq_getElem h];rfl
theorem str_inj {a b:ByteArray} (h:a.data.toList=b.data.toList):a=b:=ByteArray.ext (Array.toList_inj.mp h)
end
end Go.Proofs.YtbmmnflgnmjboaaGreatDoor
