import Derived.Test.YtjlblidnfebmiaaGreatDoorRows
import Derived.Test.YtjlblidnfebmiaaGreatDoorF1
import Derived.WalkSpells
import Derived.WalkLawsBesides
set_option maxRecDepth 100000
set_option maxHeartbeats 16000000
open Go Go.RowKit
open Go.Proofs.Tryz
namespace Go.Proofs.YtjlblidnfebmiaaGreatDoor
variable{l:List UInt8}{m:Int}
theorem vG(b:UInt8)(w:World)(h:fL b=true) :
  Calls prog 118 #[.int .u8 b.toNat] w λe w'=>e=.returned (.tuple #[(b.toNat - 48:Int),true])/\w'=w:=by
 have a:=((nl b).1 h).1;have c:=((nl b).1 h).2;clear h
 go_enter func118,ntmps118
 go_wp2
 go_ret2;exact⟨rfl,rfl⟩
theorem Ah(b:UInt8)(w:World)(h:fL b=false) :
  Calls prog 118 #[.int .u8 b.toNat] w λe w'=>e=.returned (.tuple #[(0:Int),false])/\w'=w:=by
 have a:=(FU b).1 h;clear h
 by_cases c:48<=b.toNat
 ·have d:57<b.toNat:=by omega
  clear a
  go_enter func118,ntmps118
  go_wp2
  go_ret2;exact⟨rfl,rfl⟩
 ·clear a
  go_enter func118,ntmps118
  go_wp2
  go_ret2;exact⟨rfl,rfl⟩
def iV (m:Int) (l:List UInt8):Value:=if cT m l then .tuple #[(bM l:Int),true] else .tuple #[(0:Int),false]
theorem Ai(h:cT m l=true):iV m l=.tuple #[(bM l:Int),true]:=by simp[iV,h]
theorem oZ(h:cT m l=false):iV m l=.tuple #[(0:Int),false]:=by simp[iV,h]
theorem vI(s:ByteArray)(m:Int)(w:World)(hs:s.size<=maxLen) :
  Calls prog 285 #[s,m] w λe w'=>e=.returned (iV m s.data.toList)/\w'=w:=by
 unfold maxLen at hs
 by_cases f:s.size=0
 ·have Hg:s.toList.isEmpty=true:=by rw[p9];simp[f]
  have H:Hu (iV m s.data.toList=.tuple #[(0:Int),false]):=oZ (by rw[p7];rintro⟨⟨h,_⟩,_⟩;exact h (Qe (by simpa using f)));clear f
  go_enter func285,ntmps285
  go_wp2
  go_ret2;exact⟨congrArg Ending.returned H.o.symm,rfl⟩
 have Hg:s.toList.isEmpty=false:=by rw[p9];simp[f]
 have Hf:0<s.size:=by omega
 clear f
 by_cases B:m<(s.size:Int)
 ·have H:Hu (iV m s.data.toList=.tuple #[(0:Int),false]):=oZ (by rw[p7];rintro⟨_,h,_⟩;simp at h;omega)
  go_enter func285,ntmps285
  go_wp2_with fail
  all_goals
   go_ret2;exact⟨congrArg Ending.returned H.o.symm,rfl⟩
 have Hi:(s.size:Int)<=m:=by omega
 by_cases c:1<s.size/\s[0].toNat=48
 ·have H:Hu (iV m s.data.toList=.tuple #[(0:Int),false]):=oZ (by
   rw[p7];rintro⟨⟨_,h,_⟩,_⟩;refine h ⟨by simpa using c.1,?_⟩;rw[yN s Hf];exact (yO _ 48 (by omega)).2 c.2)
  have l:1<s.size:=c.1;have p:((s[0].toNat:Int) == 48)=true:=by simp;omega
  clear c
  go_enter func285,ntmps285
  go_wp2
  go_ret2;exact⟨congrArg Ending.returned H.o.symm,rfl⟩
 have v:Hu (¬ (1<s.data.toList.length/\s.data.toList.headD 0=48)):=by
  rintro⟨a,b⟩;rw[yN s Hf] at b;exact c ⟨by simpa using a,(yO _ 48 (by omega)).1 b⟩
 have Hc:1<s.size->((s[0].toNat:Int) == 48)=false:=λh=>by simp;intro p;exact c ⟨h,by omega⟩
 clear c
 by_cases l:1<s.size
 all_goals
  try have p:=Hc l
  clear Hc
  go_enter func285,ntmps285
  go_wp2_with fail
  go_loop [6,30] (λn i=>∃k:Nat,k<=s.size/\i=.int .i64 k/\dL (s.data.toList.take k)=true/\bM (s.data.toList.take k)<=kv/\n=.int .i64 (bM (s.data.toList.take k))) (λ_ i=>s.size - (intOf i).toNat)
  case atStart=>exact⟨0,Nat.zero_le _,rfl,rfl,by simp[bM,kv],rfl⟩
  case round=>
   obtain⟨k,A,rfl,hd,o,rfl⟩:=hrel;have Hl:=sg _ hd;have j:Hu (dL (s.data.toList.take k)=true):=hd;clear hd;have He:bM (s.data.toList.take k)<=9223372036854775807:=o;clear o
   by_cases d:k<s.size
   ·have Hb:=FX s k d;cases hb:fL s[k] with
    | false=>
     have H:Hu (iV m s.data.toList=.tuple #[(0:Int),false]):=oZ (F7 m s k d hb);clear Hb
     go_wp2_with (go_at_call 118;refine (Ah _ _ hb).mono ?_;rintro e w' ⟨rfl,rfl⟩)
     go_ret2;exact⟨congrArg Ending.returned H.o.symm,rfl⟩
    | true=>
     have Hj:=((nl s[k]).1 hb).1;have Hk:=((nl s[k]).1 hb).2;have g:Hu (bM (s.data.toList.take (k+1))=bM (s.data.toList.take k)*10+((s[k].toNat:Int) - 48)):=by
      rw[Hb,yJ];rfl
     have q:Hu (dL (s.data.toList.take (k+1))=true):=by
      rw[Hb,yK,j.o,hb];rfl
     clear Hb
     by_cases t:(9223372036854775807 - ((s[k].toNat:Int) - 48)) / 10<bM (s.data.toList.take k)
     ·have H:Hu (iV m s.data.toList=.tuple #[(0:Int),false]):=oZ (F8 m s (k+1) (by
       rw[g.o];show (9223372036854775807:Int)<_;omega))
      go_wp2_with (go_at_call 118;refine (vG _ _ hb).mono ?_;rintro e w' ⟨rfl,rfl⟩)
      go_ret2;exact⟨congrArg Ending.returned H.o.symm,rfl⟩
     ·have u:Hu (bM (s.data.toList.take (k+1))<=kv):=by
       rw[g.o];show _<=(9223372036854775807:Int);omega
      go_wp2_with (go_at_call 118;refine (vG _ _ hb).mono ?_;rintro e w' ⟨rfl,rfl⟩)
      go_round
      case rel=>exact⟨k+1,by omega,by go_num,q.o,u.o,by rw[g.o]⟩
      case measure=>simp[intOf];omega
   ·have Hh:k=s.size:=by omega
    have Ha:s.data.toList.take k=s.data.toList:=List.take_of_length_le (by simp;omega);have H:Hu (iV m s.data.toList=.tuple #[(bM (s.data.toList.take k):Int),true]):=by
     have x:cT m s.data.toList=true:=by
      rw[nr];refine⟨⟨?_,v.o,?_⟩,by simpa using Hi,?_⟩
      ·intro r;have y:s.data.toList.length=0:=by rw[r];rfl
       have z:s.data.toList.length=s.size:=by simp
       omega
      ·have:=j.o;rw[Ha] at this;exact this
      ·rw[Ha] at He;exact He
     have:=Ai x
     unfold Hu;rw[Ha];exact this
    clear Ha Hh
    go_wp2
    go_ret2;exact⟨congrArg Ending.returned H.o.symm,rfl⟩
