import Derived.Test.YtjlblidnfebmiaaGreatDoorRows
import Derived.Test.YtjlblidnfebmiaaGreatDoorE1
import Derived.WalkSpells
import Derived.WalkLawsBesides
set_option maxRecDepth 100000
set_option maxHeartbeats 16000000
open Go Go.RowKit
open Go.Proofs.Tryz
namespace Go.Proofs.YtjlblidnfebmiaaGreatDoor
variable {l:List UInt8} {m:Int}
theorem uY (b:UInt8) (w:World) (h:fC b=true) :
  Calls prog 118 #[.int .u8 b.toNat] w λe w'=>e=.returned (.tuple #[(b.toNat - 48:Int),true])/\w'=w:=by
 have c:=((mZ b).1 h).1;have a:=((mZ b).1 h).2;clear h
 go_enter func118,ntmps118
 go_wp2
 go_ret2;exact ⟨rfl,rfl⟩
theorem zK (b:UInt8) (w:World) (h:fC b=false) :
  Calls prog 118 #[.int .u8 b.toNat] w λe w'=>e=.returned (.tuple #[(0:Int),false])/\w'=w:=by
 have a:=(Fp b).1 h;clear h
 by_cases d:48<=b.toNat
 ·have c:57<b.toNat:=by omega
  clear a
  go_enter func118,ntmps118
  go_wp2
  go_ret2;exact ⟨rfl,rfl⟩
 ·clear a
  go_enter func118,ntmps118
  go_wp2
  go_ret2;exact ⟨rfl,rfl⟩
def iH (m:Int) (l:List UInt8):Value:=if cQ m l then .tuple #[(bG l:Int),true] else .tuple #[(0:Int),false]
theorem zL (h:cQ m l=true):iH m l=.tuple #[(bG l:Int),true]:=by simp [iH,h]
theorem oK (h:cQ m l=false):iH m l=.tuple #[(0:Int),false]:=by simp [iH,h]
theorem uZ (s:ByteArray) (m:Int) (w:World) (hs:s.size<=maxLen) :
  Calls prog 285 #[s,m] w λe w'=>e=.returned (iH m s.data.toList)/\w'=w:=by
 unfold maxLen at hs
 by_cases f:s.size=0
 ·have Hg:s.toList.isEmpty=true:=by rw [pM];simp [f]
  have H:Hu (iH m s.data.toList=.tuple #[(0:Int),false]):=oK (by rw [pL];rintro ⟨⟨h,_⟩,_⟩;exact h (Qe (by simpa using f)));clear f
  go_enter func285,ntmps285
  go_wp2
  go_ret2;exact ⟨congrArg Ending.returned H.o.symm,rfl⟩
 have Hg:s.toList.isEmpty=false:=by rw [pM];simp [f]
 have Hc:0<s.size:=by omega
 clear f
 by_cases B:m<(s.size:Int)
 ·have H:Hu (iH m s.data.toList=.tuple #[(0:Int),false]):=oK (by rw [pL];rintro ⟨_,h,_⟩;simp at h;omega)
  go_enter func285,ntmps285
  go_wp2_with fail
  all_goals
   go_ret2;exact ⟨congrArg Ending.returned H.o.symm,rfl⟩
 have Hh:(s.size:Int)<=m:=by omega
 by_cases c:1<s.size/\s[0].toNat=48
 ·have H:Hu (iH m s.data.toList=.tuple #[(0:Int),false]):=oK (by
   rw [pL];rintro ⟨⟨_,h,_⟩,_⟩;refine h ⟨by simpa using c.1,?_⟩;rw [yq s Hc];exact (yr _ 48 (by omega)).2 c.2)
  have l:1<s.size:=c.1;have j:((s[0].toNat:Int) == 48)=true:=by simp;omega
  clear c
  go_enter func285,ntmps285
  go_wp2
  go_ret2;exact ⟨congrArg Ending.returned H.o.symm,rfl⟩
 have u:Hu (¬ (1<s.data.toList.length/\s.data.toList.headD 0=48)):=by
  rintro ⟨a,b⟩;rw [yq s Hc] at b;exact c ⟨by simpa using a,(yr _ 48 (by omega)).1 b⟩
 have Hf:1<s.size->((s[0].toNat:Int) == 48)=false:=λh=>by simp;intro j;exact c ⟨h,by omega⟩
 clear c
 by_cases l:1<s.size
 all_goals
  try have j:=Hf l
  clear Hf
  go_enter func285,ntmps285
  go_wp2_with fail
  go_loop [6,30] (λn i=>∃ k:Nat,k<=s.size/\i=.int .i64 k/\dB (s.data.toList.take k)=true/\bG (s.data.toList.take k)<=kb/\n=.int .i64 (bG (s.data.toList.take k))) (λ_ i=>s.size - (intOf i).toNat)
  case atStart=>exact ⟨0,Nat.zero_le _,rfl,rfl,by simp [bG,kb],rfl⟩
  case round=>
   obtain ⟨k,A,rfl,hd,p,rfl⟩:=hrel;have Hj:=rE _ hd;have o:Hu (dB (s.data.toList.take k)=true):=hd;clear hd;have He:bG (s.data.toList.take k)<=9223372036854775807:=p;clear p
   by_cases d:k<s.size
   ·have Hb:=Fs s k d;cases hb:fC s[k] with
    | false=>
     have H:Hu (iH m s.data.toList=.tuple #[(0:Int),false]):=oK (Fw m s k d hb);clear Hb
     go_wp2_with (go_at_call 118;refine (zK _ _ hb).mono ?_;rintro e w' ⟨rfl,rfl⟩)
     go_ret2;exact ⟨congrArg Ending.returned H.o.symm,rfl⟩
    | true=>
     have Hk:=((mZ s[k]).1 hb).1;have Hl:=((mZ s[k]).1 hb).2;have g:Hu (bG (s.data.toList.take (k+1))=bG (s.data.toList.take k)*10+((s[k].toNat:Int) - 48)):=by
      rw [Hb,yj];rfl
     have t:Hu (dB (s.data.toList.take (k+1))=true):=by
      rw [Hb,yl,o.o,hb];rfl
     clear Hb
     by_cases x:(9223372036854775807 - ((s[k].toNat:Int) - 48)) / 10<bG (s.data.toList.take k)
     ·have H:Hu (iH m s.data.toList=.tuple #[(0:Int),false]):=oK (Fx m s (k+1) (by
       rw [g.o];show (9223372036854775807:Int)<_;omega))
      go_wp2_with (go_at_call 118;refine (uY _ _ hb).mono ?_;rintro e w' ⟨rfl,rfl⟩)
      go_ret2;exact ⟨congrArg Ending.returned H.o.symm,rfl⟩
     ·have v:Hu (bG (s.data.toList.take (k+1))<=kb):=by
       rw [g.o];show _<=(9223372036854775807:Int);omega
      go_wp2_with (go_at_call 118;refine (uY _ _ hb).mono ?_;rintro e w' ⟨rfl,rfl⟩)
      go_round
      case rel=>exact ⟨k+1,by omega,by go_num,t.o,v.o,by rw [g.o]⟩
      case measure=>simp [intOf];omega
   ·have Hi:k=s.size:=by omega
    have Ha:s.data.toList.take k=s.data.toList:=List.take_of_length_le (by simp;omega);have H:Hu (iH m s.data.toList=.tuple #[(bG (s.data.toList.take k):Int),true]):=by
     have q:cQ m s.data.toList=true:=by
      rw [m5];refine ⟨⟨?_,u.o,?_⟩,by simpa using Hh,?_⟩
      ·intro r;have z:s.data.toList.length=0:=by rw [r];rfl
       have y:s.data.toList.length=s.size:=by simp
       omega
      ·have:=o.o;rw [Ha] at this;exact this
      ·rw [Ha] at He;exact He
     have:=zL q
     unfold Hu;rw [Ha];exact this
    clear Ha Hi
    go_wp2
    go_ret2;exact ⟨congrArg Ending.returned H.o.symm,rfl⟩
