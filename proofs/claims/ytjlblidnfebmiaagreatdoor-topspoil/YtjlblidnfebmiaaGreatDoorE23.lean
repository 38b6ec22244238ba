import Derived.Test.YtjlblidnfebmiaaGreatDoorE15
import Derived.Sort.Statements
import Derived.WideShapes
import Derived.WideAt
import Derived.Shelf.SlicesG.Cmp
import Derived.Ground.SlgcProg
import Derived.Maps.OwnSet
import Derived.StringKeys
import Derived.Laws.EntriesVeiled
set_option maxRecDepth 100000
set_option maxHeartbeats 16000000
open Go Go.RowKit Go.Shelf
attribute [local go_sem] Oper.semAt_some
open Go.Proofs.Tryz
namespace Go.Proofs.YtjlblidnfebmiaaGreatDoor
section
open Go.Sort
def pk (us:List ai) (nm:ByteArray):Int:=((us.find? λu=>decide (u.kind=nm)).map ai.many).getD 0
structure po where
 ab:Int
 pr:Int
 nm:ByteArray
instance:Inhabited po:=⟨⟨0,0,ByteArray.empty⟩⟩
def DK (x:Int):Int:=if 0<x then 0 else 1
def bW (a b:ByteArray):Bool:=Op.bytesLess a.toList b.toList
def cz (a b:ByteArray):Int:=if bW a b=true then -1 else if bW b a=true then 1 else 0
def j8 (a b:Int):Int:=if a=0 then b else a
def Rh (a b:po):Int:=j8 (Lib.compareInt (DK a.ab) (DK b.ab)) (j8 (Lib.compareInt a.pr b.pr) (j8 (Lib.compareInt b.ab a.ab) (cz a.nm b.nm)))
def xt (a b:po):Bool:=decide (Rh a b<0)
def Ri (us:List ai) (p:az):po:=⟨pk us p.nm - fK p.cs p.cs.length,p.pr,p.nm⟩
theorem tE:∀ a b:List UInt8,Op.bytesLess a b=bytesBefore a b
 | [],[]=>rfl
 | _ :: _,[]=>rfl
 | [],_ :: _=>rfl
 | a :: x,b :: y=>by rw [Op.bytesLess,bytesBefore,tE x y]
def dG (b:Bool):Int:=if b=true then 1 else 0
theorem lF (b:Bool):dG b=0\/dG b=1:=by cases b <;> simp [dG]
theorem xv (a:ByteArray):dG (bW a a)=0:=by simp [dG,bW,tE,WideAt.bytes_irrefl]
theorem tF (a b c:ByteArray):dG (bW a b)=1->dG (bW b c)=1->dG (bW a c)=1:=by
 simp only [dG,bW,tE];intro e d;have Hb:bytesBefore a.toList b.toList=true:=by
  rcases Bool.eq_false_or_eq_true (bytesBefore a.toList b.toList) with h|h
  ·exact h
  ·rw [h] at e;cases e
 have Ha:bytesBefore b.toList c.toList=true:=by
  rcases Bool.eq_false_or_eq_true (bytesBefore b.toList c.toList) with h|h
  ·exact h
  ·rw [h] at d;cases d
 rw [WideShapes.bytes_trans _ _ _ Hb Ha];rfl
theorem Rj {a b:ByteArray} (h:a.toList=b.toList):a=b:=by
 rw [Qs,Qs] at h;exact ByteArray.ext (Array.toList_inj.mp h)
theorem DL (a b:ByteArray):dG (bW a b)=0->dG (bW b a)=0->a=b:=by
 simp only [dG,bW,tE];intro d c
 by_cases e:a.toList=b.toList
 ·exact Rj e
 ·rcases WideAt.bytes_total _ _ e with h|h
  ·rw [h] at d;cases d
  ·rw [h] at c;cases c
theorem Rk (a b:ByteArray):dG (bW a b)=1->dG (bW b a)=0:=by grind [lF,bW,tF,xv]
theorem mG (a b c:ByteArray):dG (bW a b)=0->dG (bW b c)=0->dG (bW a c)=0:=by grind [lF,bW,DL,tF]
def VE (l:List po):Prop:=l.Pairwise λa b=>xt b a=false
def DM (us:List ai) (l:List az) (i:Nat):Int:=((l.drop i).map λp=>pk us p.nm).sum
structure VF (us:List ai) (l:List az) (most:Int) (i g:Nat):Prop where
 lo:i<=g
 hi:g<=l.length
 no:∀ j,i<=j->j<g->most<DM us l j
 yes:g<l.length->DM us l g<=most
end
end Go.Proofs.YtjlblidnfebmiaaGreatDoor
namespace Go.Proofs
open Go.Shelf
def Tryz.cmpL2_ren:Go.Shelf.Ren:=⟨fun|5=>153|7=>187|n=>n,fun|22=>3|3=>3|4=>4|n=>n,fun|n=>n⟩
theorem Tryz.cmpL2:Go.Proofs.SlLaysC2.n5 Tryz.prog Tryz.cmpL2_ren:=by
 constructor
 case f5=>exact ⟨Tryz.f153.name,by decide,Tryz.func153.trans (congrArg some (by kernel_rfl))⟩
 case f7=>exact ⟨Tryz.f187.name,by decide,Tryz.func187.trans (congrArg some (by kernel_rfl))⟩
 all_goals intros;kernel_rfl
end Go.Proofs
namespace Go.Proofs.YtjlblidnfebmiaaGreatDoor
def tG (us:List ai) (ps:List az) (j:Nat):po:=Ri us (bI ps j)
structure VG (us:List ai) (ps:List az) (D:Nat->Bool) (out:List Nat):Prop where
 nodup:out.Nodup
 mem:∀ j,j∈out↔(j<ps.length/\D j=true)
 srt:out.Pairwise λa b=>xt (tG us ps b) (tG us ps a)=false
 ahead:∀ a,a∈out->∀ j,j<ps.length->D j=false->xt (tG us ps j) (tG us ps a)=false
def VH (ps:List az):Prop:=(ps.map az.nm).Nodup
def VI (us:List ai) (ps:List az) (n:Nat):Int:=iJ (λk=>pk us (bI ps k).nm) n
def Rl (us:List ai):Prop:=∀ k,k<us.length->-1125899906842624<=(ak us k).many/\(ak us k).many<=1125899906842624
def Rm (us:List ai) (qs:List az) (most:Int) (st:Int × Nat) (x:Nat):Int × Nat:=
 (st.1+pk us (bI qs x).nm,if st.1+pk us (bI qs x).nm<=most then x else st.2)
def VJ (us:List ai) (qs:List az) (most:Int) (pre:List Nat):Int × Nat:=pre.foldl (Rm us qs most) (0,qs.length)
def VK (n k:Nat):List Nat:=(List.range k).map λj=>n - 1 - j
section
open RowKit Go.ChangeMaps
open Go.Maps (Keyed)
theorem pq:Keyed prog 9:=Go.Maps.string_keyed underlying9
theorem DN (w:World):(zeroValue 3).run prog w=.ok (0:Int) w:=by kernel_rfl
def Ro (w:World) (B n:Nat) (us:List ai):Prop:=
 ∃ D:DataW Unit,w.ownsMap prog 9 (plainElem prog 3) B n D/\∀ s:ByteArray,D.atKey (.string s.data.toList) (.lit (.int .i64 0))=.lit (.int .i64 (pk us s))/\Go.Maps.has D (.string s.data.toList)=us.any λu=>decide (u.kind=s)
theorem Rp {us:List ai} {k:Nat} (h:k<us.length):us.take (k+1)=us.take k++[ak us k]:=by grind [List.take_add_one,ak]
theorem DO {a b:ByteArray} (h:a.data.toList=b.data.toList):a=b:=ByteArray.ext (Array.toList_inj.mp h)
def Rq (us:List ai):Prop:=us.length<=20/\Rl us/\∀ k,k<us.length->(ak us k).kind.size<=30
end
def KpB (b Bs:Nat) (W W':World):Prop:=W'.heap[b]?=W.heap[b]?/\W'.heap[Bs]?=W.heap[Bs]?
structure VL (w:World) (mc fc B n:Nat) (us:List ai):Prop where
 m:w.cell? mc=some (.map B)
 f:w.cell? fc=some (.func (.func 150) #[] #[.pointer (some ⟨mc,0,none⟩)])
 u:Ro w B n us
end Go.Proofs.YtjlblidnfebmiaaGreatDoor
namespace Go.Proofs
open Go.Shelf
def Tryz.clonePL_ren:Go.Shelf.Ren:=⟨fun|41=>149|n=>n,fun|22=>67|23=>49|4=>4|n=>n,fun|n=>n⟩
theorem Tryz.clonePL:Go.Proofs.SlLaysE0.n41 Tryz.prog Tryz.clonePL_ren:=by
 constructor
 case f41=>exact ⟨Tryz.f149.name,by decide,Tryz.func149.trans (congrArg some (by kernel_rfl))⟩
 all_goals intros;kernel_rfl
end Go.Proofs
namespace Go.Proofs.YtjlblidnfebmiaaGreatDoor
def txV (l:List ByteArray):List Value:=l.map Value.string
def VM (base:Nat) (w:World) (v:Value) (l:List ByteArray):Prop:=w.ownsRow base 9 1 v l.length (txV l)
end Go.Proofs.YtjlblidnfebmiaaGreatDoor
namespace Go.Proofs
open Go.Shelf
def Tryz.sortPL_ren:Go.Shelf.Ren:=⟨fun|6=>151|15=>161|14=>186|28=>202|29=>203|20=>233|21=>234|22=>235|23=>236|24=>237|25=>238|26=>239|27=>240|46=>276|47=>254|48=>255|49=>277|50=>278|57=>298|n=>n,fun|22=>67|24=>49|25=>262|3=>3|39=>219|0=>0|53=>296|55=>23|4=>4|46=>312|45=>311|50=>134|5=>5|9=>9|66=>357|70=>361|76=>389|77=>390|n=>n,fun|n=>n⟩
theorem Tryz.sortPL:Go.Proofs.SlLaysF0.n6 Tryz.prog Tryz.sortPL_ren:=by
 constructor
 case f6=>exact ⟨Tryz.f151.name,by decide,Tryz.func151.trans (congrArg some (by kernel_rfl))⟩
 case f14=>exact ⟨Tryz.f186.name,by decide,Tryz.func186.trans (congrArg some (by kernel_rfl))⟩
 case f20=>exact ⟨Tryz.f233.name,by decide,Tryz.func233.trans (congrArg some (by kernel_rfl))⟩
 case f21=>exact ⟨Tryz.f234.name,by decide,Tryz.func234.trans (congrArg some (by kernel_rfl))⟩
 case f22=>exact ⟨Tryz.f235.name,by decide,Tryz.func235.trans (congrArg some (by kernel_rfl))⟩
 case f23=>exact ⟨Tryz.f236.name,by decide,Tryz.func236.trans (congrArg some (by kernel_rfl))⟩
 case f24=>exact ⟨Tryz.f237.name,by decide,Tryz.func237.trans (congrArg some (by kernel_rfl))⟩
 case f25=>exact ⟨Tryz.f238.name,by decide,Tryz.func238.trans (congrArg some (by kernel_rfl))⟩
 case f26=>exact ⟨Tryz.f239.name,by decide,Tryz.func239.trans (congrArg some (by kernel_rfl))⟩
 case f27=>exact ⟨Tryz.f240.name,by decide,Tryz.func240.trans (congrArg some (by kernel_rfl))⟩
 case f46=>exact ⟨Tryz.f276.name,by decide,Tryz.func276.trans (congrArg some (by kernel_rfl))⟩
 case f49=>exact ⟨Tryz.f277.name,by decide,Tryz.func277.trans (congrArg some (by kernel_rfl))⟩
 case f50=>exact ⟨Tryz.f278.name,by decide,Tryz.func278.trans (congrArg some (by kernel_rfl))⟩
 case f57=>exact ⟨Tryz.f298.name,by decide,Tryz.func298.trans (congrArg some (by kernel_rfl))⟩
 all_goals intros;kernel_rfl
end Go.Proofs
namespace Go.Proofs.YtjlblidnfebmiaaGreatDoor
section
open Go.Sort (SWO PermIn SortedIn HoldsK flatK putRowK)
def OkE (W0:World) (x:az × Value):Prop:=aZ W0 x.2 x.1.cs/\km x.1.cs/\x.1.nm.size<=1000
abbrev PE (W0:World):={ x:az × Value // OkE W0 x }
end
def VN (ps:List az):Prop:=ps.length<=16/\∀ x∈ps,km x.cs/\x.nm.size<=1000
structure Ac where
 kd:ByteArray
 s:ByteArray
 a:Int
 b:Int
 m:Nat
 lv:Value
 p:az
 cv:Value
 us:List ai
 uv:Value
structure VO (W:World) (x:Ac):Prop where
 l:∃ la ll lc,x.lv=.slice la ll lc
 c:aZ W x.cv x.p.cs
 u:bO W x.uv x.us
 a:-9223372036854775808<=x.a/\x.a<=9223372036854775807
def ac (xs:List Ac) (k:Nat):Ac:=xs.getD k ⟨ByteArray.empty,ByteArray.empty,0,0,0,.nilIface,⟨ByteArray.empty,0,[]⟩,.nilIface,[],.nilIface⟩
section
variable {H:Type} {enc:TypeId × Value->H} {W:World}
end
def VP (xs:List Ac) (k:Nat):Prop:=∀ j,j<k->Rq (ac xs j).us
structure But (B1 B2:Nat) (A W:World):Prop where
 os:W.os=A.os
 tape:W.tape=A.tape
 output:W.output=A.output
 size:A<=W.heap.size
 block:∀ k,k<A.heap.size->k≠B1->k≠B2->W.heap[k]?=A.heap[k]?
