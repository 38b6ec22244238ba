import Derived.Test.YtjlblidnfebmiaaGreatDoorRows
import Derived.Test.YtjlblidnfebmiaaGreatDoorTk3
import Derived.Maps.OwnSet
import Derived.Maps.Range
import Derived.Maps.Views
import Derived.DeepKeys4
import Derived.WalkKit
import Derived.Laws.Bits64b
set_option maxRecDepth 100000
set_option maxHeartbeats 16000000
open Go Go.RowKit
open Go.Proofs.Tryz
namespace Go.Proofs.YtjlblidnfebmiaaGreatDoor
variable{B k n:Nat}{a b:ByteArray}{w:World}
section
open RowKit Go.ChangeMaps Go.Maps
structure RV where
 pod:ByteArray
 cont:ByteArray
 cpus:Int
 da:Option Addr
 dn:Nat
 dc:Nat
def RV.val (x:RV):Value:=.agg #[x.pod,x.cont,.int .u64 x.cpus,.slice x.da x.dn x.dc]
def RV.cells (x:RV):List Value:=[.string x.pod,.string x.cont,.int .u64 x.cpus,.slice x.da x.dn x.dc]
theorem RV.val_inj{x y:RV}(h:x.val=y.val):x=y:=by
 cases x;cases y
 simp[RV.val] at h
 simp[h]
def oJ:Value->Option (DataW Value × List MemPlace)
 | .agg ⟨[.string p,.string c,.int .u64 n,.slice a m k]⟩=>some (.held (.agg #[.string p,.string c,.int .u64 n,.slice a m k]),[])
 | _=>none
theorem wo(x:RV):oJ x.val=some (.held x.val,[]):=rfl
theorem At{v:Value}{y:DataW Value × List MemPlace}(h:oJ v=some y):∃x:RV,v=x.val/\y=(.held x.val,[]):=by
 unfold oJ at h
 split at h
 ·rename_i p c n a m k
  cases h;exact⟨⟨p,c,n,a,m,k⟩,rfl,rfl⟩
 ·cases h
def jG (a b:ByteArray):Value:=.agg #[a,b]
def gu (a b:ByteArray):Lit:=.string (keyBytes [.string a.data.toList,.string b.data.toList])
theorem IK:laidOutB prog=true:=by kernel_rfl
theorem Au:(179:TypeId)<prog.types.size:=of_decide_eq_true (by kernel_rfl)
theorem IL:(match prog.underlying 179 with|some (.array _ _)|some (.struct _)=>true|_=>false)=true:=by kernel_rfl
theorem oK:Keyed prog 179:=Keyed.of_law (deep_law_laid IK (m:=2) (by omega) Au (by kernel_rfl) IL)
theorem IM:prog.keyType 179=true:=by kernel_rfl
theorem Av:prog.cellsOf 179=2:=by kernel_rfl
theorem IN:prog.cellsOf 9=1:=by kernel_rfl
theorem IP{m:Nat}(h:k<m):∃n,m=n+1:=⟨m - 1,by omega⟩
theorem rG(a b:ByteArray)(e:a.size<=maxLen)(d:b.size<=maxLen):keyOf prog 179 (jG a b)=some (gu a b):=by
 obtain⟨n,f⟩:=IP Au;have c:∀s:ByteArray,s.size<=maxLen->prog.keyLits (n+1) 9 [.string s]=some [.string s.data.toList]:=λs hs=>by
  simp_all[Program.keyLits]
 unfold keyOf;simp only[underlying179,jG,IM,Value.formed,Av,Value.cells];rw[if_pos (by rfl),f];unfold Program.keyLits;rw[underlying179]
 simp[Av,IN,c a e,c b d,gu]
theorem IQ{c d:ByteArray}(j:a.size<=maxLen)(f:b.size<=maxLen)(g:c.size<=maxLen)(hd:d.size<=maxLen)(h:gu a b=gu c d):a=c/\b=d:=by
 have i:=rG a b j f;have e:=rG c d g hd;rw[<- h] at e
 have:=oK.inj i e
 simp[jG] at this
 exact this
end
def qg (h:Nat) (b:UInt8):Nat:=(h ^^^ b.toNat)*16777619 % 4294967296
def gT (l:List UInt8):Nat:=l.foldl qg 2166136261
theorem Aw(l:List UInt8)(b:UInt8):gT (l++[b])=qg (gT l) b:=by
 grind[gT]
theorem wu(l:List UInt8):gT l<4294967296:=by
 rcases List.eq_nil_or_concat l with rfl|⟨l,b,rfl⟩
 ·grind[gT]
 ·grind[Aw,qg]
theorem IR{l:List UInt8}(h:k<l.length):gT (l.take (k+1))=qg (gT (l.take k)) l[k]:=by
 grind[Aw,List.take_add_one]
theorem IS{a b:Nat}(d:a<4294967296)(c:b<4294967296):a ^^^ b<4294967296:=Nat.xor_lt_two_pow (n:=32) d c
theorem IT{a b:Nat}(e:a<4294967296)(c:b<4294967296):bits .xor .u32 (a:Int) (b:Int)=((a ^^^ b:Nat):Int):=by
 have d:(BitVec.ofInt 32 (a:Int)).toNat=a:=by grind
 have f:(BitVec.ofInt 32 (b:Int)).toNat=b:=by grind
 show IntKind.u32.wrap ((BitVec.ofInt 32 (a:Int) ^^^ BitVec.ofInt 32 (b:Int)).toNat:Int)=_
 rw[BitVec.toNat_xor,d,f]
 have:=IS e c
 rw[IntKind.wrap_u32];omega
theorem IU(h:Nat)(b:UInt8):IntKind.u32.wrap (((h ^^^ b.toNat:Nat):Int)*16777619)=(qg h b:Nat):=by
 grind[qg,IntKind.wrap_u32]
theorem Ax(n:Int):bits .and .i64 n 1073741823=n % 1073741824:=by
 have a:(BitVec.ofInt 64 n).toNat=(n % 18446744073709551616).toNat:=by simp
 have b:(BitVec.ofInt 64 (1073741823:Int)).toNat=2 ^ 30 - 1:=by decide
 show IntKind.i64.wrap ((BitVec.ofInt 64 n &&& BitVec.ofInt 64 (1073741823:Int)).toNat:Int)=_
 rw[BitVec.toNat_and,a,b,Nat.and_two_pow_sub_one_eq_mod,IntKind.wrap_i64];omega
def iQ (h l v:Int):Prop:=0<=l/\l<1073741824/\h*1073741824+l=v
theorem iQ.zero:iQ 0 0 0:=⟨by omega,by omega,by omega⟩
theorem iQ.le{h l v a b c:Int}(t:iQ h l v)(t':iQ a b c):(h<a\/(h=a/\l<=b))↔v<=c:=by
 obtain⟨e,f,d⟩:=t;obtain⟨g1,g,g3⟩:=t';omega
section
open RowKit Go.ChangeMaps Go.Maps Go.WideShapes
def RV.key (x:RV):Lit:=gu x.pod x.cont
def RV.Short (x:RV):Prop:=x.pod.size<=7000/\x.cont.size<=7000
theorem ln(h:n<=7000):n<=maxLen:=by unfold maxLen;omega
theorem RV.keyOf{x:RV}(h:x.Short):keyOf prog 179 (jG x.pod x.cont)=some x.key:=rG _ _ (ln h.1) (ln h.2)
theorem RV.key_eq{x:RV}(h:x.Short)(d:a.size<=7000)(c:b.size<=7000):x.key=gu a b↔(x.pod=a/\x.cont=b):=by
 constructor
 ·exact λe=>IQ (ln h.1) (ln h.2) (ln d) (ln c) e
 ·rintro⟨rfl,rfl⟩;rfl
theorem IV{a b c d:ByteArray}:(gu a b).sameKey (gu c d)=true↔gu a b=gu c d:=by
 constructor
 ·exact WideAt.sameKey_eq
 ·intro e;rw[e];exact WideAt.sameKey_self trivial
def md (xs:List RV):List (Lit × DataW Value):=xs.map λx=>(x.key,.held x.val)
def bI (w:World) (B n:Nat) (xs:List RV):Prop:=(∀x∈xs,x.Short)/\∃es,w.ownsMap prog 179 oJ B n (.map es)/\es.Perm (md xs)
theorem bI.lt{a:List RV}(h:bI w B n a):B<w:=by
 obtain⟨_,c,b,_⟩:=h;exact b.lt
theorem bI.block{w':World}{b:List RV}(h:bI w B n b)(d:w'.heap[B]?=w.heap[B]?):bI w' B n b:=by
 obtain⟨hs,f,⟨c,a,g,r⟩,e⟩:=h;exact⟨hs,f,⟨c,a,d.trans g,r⟩,e⟩
theorem bI.made(w:World):bI (w.alloc (.map #[] 0)) w 0 []:=
 ⟨λx a=>by simp at a,[],World.ownsMap_made w _ _ _,List.Perm.nil⟩
theorem bI.keys{b:List RV}(h:bI w B n b):(b.map RV.key).Nodup:=by
 obtain⟨hs,i,g,c⟩:=h;obtain⟨d,e,hd,_⟩:=g.entries oK;cases e;have f:(i.map Prod.fst).Nodup:=List.pairwise_map.2 hd;have a:=(c.map Prod.fst).nodup_iff.1 f;unfold md at a;rw[List.map_map] at a;exact a
theorem bI.has{d:List RV}(h:bI w B n d){j:List (Lit × DataW Value)}(g:j.Perm (md d))(i:a.size<=7000)(f:b.size<=7000) :
  Maps.has (.map j) (gu a b)=d.any λx=>decide (x.pod=a/\x.cont=b):=by
 rw[Maps.has_eq,Bool.eq_iff_iff,List.any_eq_true,List.any_eq_true];constructor
 ·rintro⟨p,k,e⟩;obtain⟨x,c,rfl⟩:=Qk.1 (g.mem_iff.1 k);exact⟨x,c,Qc ((RV.key_eq (h.1 x c) i f).1 (WideAt.sameKey_eq e))⟩
 ·rintro⟨x,c,e⟩;refine⟨(x.key,.held x.val),g.mem_iff.2 (Qk.2 ⟨x,c,rfl⟩),?_⟩;rw[show x.key=gu a b from (RV.key_eq (h.1 x c) i f).2 (of_decide_eq_true e)];exact WideAt.sameKey_self trivial
theorem IW(w:World):(zeroValue 129).run prog w=.ok (RV.val ⟨ByteArray.empty,ByteArray.empty,0,none,0,0⟩) w:=by kernel_rfl
theorem bI.put{d:List RV}(h:bI w B n d)(x:RV)(b:x.Short)(o:n<1000)(l:(d.any λy=>decide (y.pod=x.pod/\y.cont=x.cont))=false) :
  ∃w',(Instr.mapUpdate 149 (.map B) (jG x.pod x.cont) x.val).run prog w=.ok () w'/\bI w' B (n+1) (x :: d)/\w.grownBy w' (some B)/\w'=w.heap.size:=by
 obtain⟨c,k,f⟩:=h.2;obtain⟨w',Ha,Hb,g⟩:=k.store oK underlying149 (by unfold maxLen;omega) (RV.keyOf b) (wo x);refine⟨w',Ha,⟨λy a=>?_,putKey x.key (.held x.val) c,Hb,?_⟩,g.grown,?_⟩
 ·rcases List.mem_cons.1 a with rfl|a
  ·exact b
  ·exact h.1 y a
 ·unfold putKey;refine (insert_perm _ _).trans ?_;have hf:c.filter (notKey x.key)=c:=by
   refine List.filter_eq_self.2 λp j=>?_
   obtain⟨y,a,rfl⟩:=Qk.1 (f.mem_iff.1 j);have Hc:¬ (y.pod=x.pod/\y.cont=x.cont):=of_decide_eq_false (by grind)
   show (!y.key.sameKey x.key)=true
   rw[Bool.not_eq_true'];refine sameKey_ne λe=>Hc ((RV.key_eq (h.1 y a) b.1 b.2).1 e)
  rw[hf];exact List.Perm.cons _ f
 ·obtain⟨i,c0,m,c1,_,rfl⟩:=g
  simp[setBlock]
theorem bI.drop{c:List RV}(h:bI w B n c)(a b:ByteArray)(g:a.size<=7000)(f:b.size<=7000)(d:TypeId) :
  ∃w',(Builtin.delete_ #[149,179] d #[.map B,jG a b]).run prog w=.ok (.tuple #[]) w'/\bI w' B n (c.filter λx=>!decide (x.pod=a/\x.cont=b))/\w.grownBy w' (some B)/\w'=w.heap.size:=by
 obtain⟨l,k,m⟩:=h.2;obtain⟨w',Ha,Hc,i⟩:=k.drop oK underlying149 (rG a b (ln g) (ln f)) d;refine⟨w',Ha,⟨λy p=>h.1 y (List.mem_filter.1 p).1,delKey (gu a b) l,Hc,?_⟩,i.grown,?_⟩
 ·unfold delKey;refine (m.filter _).trans ?_;unfold md;rw[List.filter_map];have Hb:c.filter (notKey (gu a b) ∘ λx:RV=>(x.key,(DataW.held x.val:DataW Value)))=c.filter λx=>!decide (x.pod=a/\x.cont=b):=by
   refine List.filter_congr λx q=>?_
   have e:x.key.sameKey (gu a b)=decide (x.pod=a/\x.cont=b):=by
    rw[Bool.eq_iff_iff,decide_eq_true_iff];exact (IV).trans (RV.key_eq (h.1 x q) g f)
   show (!x.key.sameKey (gu a b))=_
   rw[e]
  rw[Hb]
 ·obtain⟨j,c0,o,c1,_,rfl⟩:=i
  simp[setBlock]
def Came (left:Lit->Bool) (xs pre:List RV):Prop:=∃rest,xs.Perm (pre++rest)/\(∀x∈pre,left x.key=false)/\∀x∈rest,left x.key=true
theorem Came.start{b:List RV}{c:List (Lit × DataW Value)}(d:c.Perm (md b)):Came (Maps.has (.map c)) b []:=
 ⟨b,by simp,λx a=>by simp at a,λx a=>List.any_eq_true.2 ⟨(x.key,.held x.val),d.mem_iff.2 (Qk.2 ⟨x,a,rfl⟩),WideAt.sameKey_self trivial⟩⟩
theorem Came.finish{left:Lit->Bool}{b pre:List RV}(h:Came left b pre)(e:∀c,left c=false):pre.Perm b:=by
 obtain⟨rest,a,_,d⟩:=h
 have:rest=[]:=by
  cases rest with
  | nil=>rfl
  | cons x l=>have:=d x (by simp);rw[e] at this;cases this
 subst this;rw[List.append_nil] at a;exact a.symm
theorem at_mem{c:List (Lit × DataW Value)}{b:Lit}{y:DataW Value}(a:∀f,(DataW.map c).atKey b f=y):∃p∈c,p.1=b/\p.2=y:=by
 unfold DataW.atKey at a;simp only at a;cases hf:c.find? (λp=>p.1.sameKey b) with
 | none=>
  rw[hf] at a;have e:=a .nil;have d:=a (.lit .nil);simp only at e d;rw[<- e] at d;cases d
 | some p=>
  rw[hf] at a;exact⟨p,List.mem_of_find?_eq_some hf,WideAt.sameKey_eq (List.find?_some (p:=λq:Lit × DataW Value=>q.1.sameKey b) hf),a .nil⟩
theorem Came.step{left:Lit->Bool}{a pre:List RV}{i:List (Lit × DataW Value)}(h:Came left a pre)(n:i.Perm (md a))(o:(a.map RV.key).Nodup){d:Lit}{c:RV}(k:left d=true)(f:∀m,(DataW.map i).atKey d m=.held c.val) :
  Came (λz=>left z && !z.sameKey d) a (pre++[c])/\d=c.key:=by
 obtain⟨p,l,rfl,He⟩:=at_mem f;obtain⟨x,s,rfl⟩:=Qk.1 (n.mem_iff.1 l);have e:=RV.val_inj (by simpa using He);subst e;obtain⟨rest,Hb,r,q⟩:=h;have Ha:x∈rest:=by
  grind
 obtain⟨r1,g,rfl⟩:=List.append_of_mem Ha;have Hc:a.Perm ((pre++[x])++(r1++g)):=by
  refine Hb.trans ?_;rw[List.append_assoc];exact List.Perm.append_left _ List.perm_middle
 have Hg:=(Hb.map _).nodup_iff.1 o;refine⟨⟨r1++g,Hc,λy j=>?_,λy j=>?_⟩,rfl⟩
 ·rcases Qi.1 j with b|b
  ·grind
  ·simp at b
   subst b
   show (left y.key && !y.key.sameKey y.key)=false
   rw[WideAt.sameKey_self (show WideAt.IsKeyLit y.key from trivial)];simp
 ·have b:y∈r1++x :: g:=by
   grind
  have Hf:y.key≠x.key:=by
   grind
  show (left y.key && !y.key.sameKey x.key)=true
  rw[q y b,sameKey_ne Hf];rfl
end
