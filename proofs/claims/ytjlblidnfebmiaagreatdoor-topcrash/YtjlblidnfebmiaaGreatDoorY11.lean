import Derived.Test.YtjlblidnfebmiaaGreatDoorRows
import Derived.Test.YtjlblidnfebmiaaGreatDoorY2
import Derived.WalkSpells
import Derived.WalkLawsBesides
set_option maxRecDepth 100000
set_option maxHeartbeats 16000000
open Go Go.RowKit
open Go.Proofs.Tryz
namespace Go.Proofs.YtjlblidnfebmiaaGreatDoor
variable{l:List UInt8}{m:Int}
theorem xA{b:UInt8}(w:World)(h:gw b=true) :
  CE 118 #[.int .u8 b.toNat] w (.tuple #[(b.toNat - 48:Int),true]):=by
 have a:=((oM b).1 h).1;have c:=((oM b).1 h).2;clear h
 go_enter func118,ntmps118
 go_wp2
 go_ret2;exact⟨rfl,rfl⟩
theorem Cu{b:UInt8}(w:World)(h:gw b=false) :
  CE 118 #[.int .u8 b.toNat] w (.tuple #[(0:Int),false]):=by
 have a:=(IX b).1 h;clear h
 by_cases d:48<=b.toNat
 ·have c:57<b.toNat:=by omega
  clear a
  go_enter func118,ntmps118
  go_wp2
  go_ret2;exact⟨rfl,rfl⟩
 ·clear a
  go_enter func118,ntmps118
  go_wp2
  go_ret2;exact⟨rfl,rfl⟩
def jq (m:Int) (l:List UInt8):Value:=if dA m l then .tuple #[(bX l:Int),true] else .tuple #[(0:Int),false]
theorem Cv(h:dA m l=true):jq m l=.tuple #[(bX l:Int),true]:=by simp[jq,h]
theorem qE(h:dA m l=false):jq m l=.tuple #[(0:Int),false]:=by simp[jq,h]
theorem xB(s:ByteArray)(m:Int)(w:World)(hs:s.size<=maxLen) :
  CE 285 #[s,m] w (jq m s.data.toList):=by
 unfold maxLen at hs
 by_cases l:s.size=0
 ·have Hg:s.toList.isEmpty=true:=by simp_all
  have H:Hu (jq m s.data.toList=.tuple #[(0:Int),false]):=qE (by simp_all[rH]);clear l
  go_enter func285,ntmps285
  go_wp2
  go_ret2;exact⟨congrArg Ending.returned H.o.symm,rfl⟩
 have Hg:s.toList.isEmpty=false:=by grind[wv]
 have Hc:0<s.size:=by omega
 clear l
 by_cases B:m<(s.size:Int)
 ·have H:Hu (jq m s.data.toList=.tuple #[(0:Int),false]):=qE (by rw[rH];rintro⟨_,h,_⟩;simp at h;omega)
  go_enter func285,ntmps285
  go_wp2
  all_goals
   go_ret2;exact⟨congrArg Ending.returned H.o.symm,rfl⟩
 have Hh:(s.size:Int)<=m:=by omega
 by_cases c:1<s.size/\s[0].toNat=48
 ·have H:Hu (jq m s.data.toList=.tuple #[(0:Int),false]):=qE (by
   rw[rH];rintro⟨⟨_,h,_⟩,_⟩;refine h ⟨by simpa using c.1,?_⟩;rw[AD s Hc];exact (AE 48 (by omega)).2 c.2)
  have j:=c.1;have x:((s[0].toNat:Int) == 48)=true:=by simp;omega
  clear c
  go_enter func285,ntmps285
  go_wp2
  go_ret2;exact⟨congrArg Ending.returned H.o.symm,rfl⟩
 have p:Hu (¬ (1<s.data.toList.length/\s.data.toList.headD 0=48)):=by
  rintro⟨a,b⟩;rw[AD s Hc] at b;exact c ⟨by simpa using a,(AE 48 (by omega)).1 b⟩
 have Hf:1<s.size->((s[0].toNat:Int) == 48)=false:=λh=>by grind
 clear c
 by_cases j:1<s.size
 all_goals
  try have x:=Hf j
  clear Hf
  go_enter func285,ntmps285
  go_wp2
  go_loop [6,30] (λn i=>∃k:Nat,k<=s.size/\i=.int .i64 k/\dX (s.data.toList.take k)=true/\bX (s.data.toList.take k)<=lq/\n=.int .i64 (bX (s.data.toList.take k))) (λ_ i=>s.size - (intOf i).toNat)
  exact⟨0,Nat.zero_le _,rfl,rfl,by simp[bX,lq],rfl⟩
  ·obtain⟨k,A,rfl,hd,g,rfl⟩:=hrel;have Hk:=ub hd;have v:Hu (dX (s.data.toList.take k)=true):=hd;clear hd;have He:bX (s.data.toList.take k)<=9223372036854775807:=g;clear g
   by_cases d:k<s.size
   ·have Hb:=I0 s k d;cases hb:gw s[k] with
    | false=>
     have H:Hu (jq m s.data.toList=.tuple #[(0:Int),false]):=qE (I4 m k d hb);clear Hb
     go_wp2_with (go_at_call 118;refine (Cu _ hb).mono ?_;rintro e w' ⟨rfl,rfl⟩)
     go_ret2;exact⟨congrArg Ending.returned H.o.symm,rfl⟩
    | true=>
     have Hj:=((oM s[k]).1 hb).1;have Hl:=((oM s[k]).1 hb).2;have f:Hu (bX (s.data.toList.take (k+1))=bX (s.data.toList.take k)*10+((s[k].toNat:Int) - 48)):=by
      rw[Hb,Ay];rfl
     have u:Hu (dX (s.data.toList.take (k+1))=true):=by
      grind[Az]
     clear Hb
     by_cases o:(9223372036854775807 - ((s[k].toNat:Int) - 48)) / 10<bX (s.data.toList.take k)
     ·have H:Hu (jq m s.data.toList=.tuple #[(0:Int),false]):=qE (I5 m s (by
       rw[f.o];show (9223372036854775807:Int)<_;omega))
      go_wp2_with (go_at_call 118;refine (xA _ hb).mono ?_;rintro e w' ⟨rfl,rfl⟩)
      go_ret2;exact⟨congrArg Ending.returned H.o.symm,rfl⟩
     ·have t:Hu (bX (s.data.toList.take (k+1))<=lq):=by
       rw[f.o];show _<=(9223372036854775807:Int);omega
      go_wp2_with (go_at_call 118;refine (xA _ hb).mono ?_;rintro e w' ⟨rfl,rfl⟩)
      go_round
      exact⟨k+1,by omega,by go_num,u,t,by rw[f.o]⟩
      simp[intOf];omega
   ·have Hi:k=s.size:=by omega
    have Ha:s.data.toList.take k=s.data.toList:=List.take_of_length_le (by simp;omega);have H:Hu (jq m s.data.toList=.tuple #[(bX (s.data.toList.take k):Int),true]):=by
     have q:dA m s.data.toList=true:=by
      rw[oN];refine⟨⟨?_,p,?_⟩,by simpa using Hh,?_⟩
      ·intro r;have y:s.data.toList.length=0:=by rw[r];rfl
       have z:s.data.toList.length=s.size:=by simp
       omega
      ·have:=v.o;rw[Ha] at this;exact this
      ·rw[Ha] at He;exact He
     have:=Cv q
     unfold Hu;rw[Ha];exact this
    clear Ha Hi
    go_wp2
    go_ret2;exact⟨congrArg Ending.returned H.o.symm,rfl⟩
