/- TRef, TEnv, DW1, TTMath, Math4, Amt2, Same, SPop, VI4, QW1, RK2, TPop -/
import Derived.Test.YtbfdcmodflnkfaaGreatDoorU2
import Derived.OrdersHeld
import Derived.OrdersIn
import Derived.Laws.Bits128
set_option maxRecDepth 100000
set_option maxHeartbeats 16000000
namespace Go.Proofs.YtbfdcmodflnkfaaGreatDoor
section
open Go.RowKit
open Ost (Cpu cpu0 chosenTo chosen chosenTo_yes chosenTo_no chosenTo_lt)
def CellsAt (w:World) (b o:Nat) (l:List Cpu):Prop:=
 ∀ k,k<l.length→w.cell? ⟨b,o+k*3,none⟩=some (.int .i64 (l.getD k cpu0).core)∧w.cell? ⟨b,o+k*3+1,none⟩=some (.int .i64 (l.getD k cpu0).sock)∧w.cell? ⟨b,o+k*3+2,none⟩=some (.int .i64 (l.getD k cpu0).node)
def CpusAt (w:World) (v:Value) (l:List Cpu):Prop:=
 (l=[]∧∃ ao c,v=.slice ao 0 c)∨∃ b o c,v=.slice (some ⟨b,o,none⟩) l.length c∧CellsAt w b o l
theorem CellsAt.below {w0 w w':World} {b o:Nat} {l:List Cpu} (h:CellsAt w b o l) (hlt:b<w0.heap.size) (hb:Below w0.heap.size w w'):CellsAt w' b o l:=by
 intro k hk
 obtain ⟨h1,h2,h3⟩:=h k hk
 exact ⟨(hb.cell (p:=⟨b,o+k*3,none⟩) hlt).trans h1,(hb.cell (p:=⟨b,o+k*3+1,none⟩) hlt).trans h2,(hb.cell (p:=⟨b,o+k*3+2,none⟩) hlt).trans h3⟩
theorem CpusAt.below {w w':World} {v:Value} {l:List Cpu} (h:CpusAt w v l) (hb:Below w.heap.size w w'):CpusAt w' v l:=by
 rcases h with h|⟨b,o,c,hv,hc⟩
 ·exact .inl h
 ·refine .inr ⟨b,o,c,hv,fun k hk=>?_⟩
  obtain ⟨h1,h2,h3⟩:=hc k hk
  have hlt:=World.block_lt_of_cell? w _ h1
  exact ⟨(hb.cell (p:=⟨b,o+k*3,none⟩) hlt).trans h1,(hb.cell (p:=⟨b,o+k*3+1,none⟩) hlt).trans h2,(hb.cell (p:=⟨b,o+k*3+2,none⟩) hlt).trans h3⟩
def Good (l:List Cpu):Prop:=∀ c∈l,0≤c.core∧c.core≤63∧0≤c.sock∧c.sock≤63∧0≤c.node∧c.node≤3
theorem Good.at {l:List Cpu} (h:Good l) {k:Nat} (hk:k<l.length):0≤(l.getD k cpu0).node∧(l.getD k cpu0).node≤3:=by
 have:l.getD k cpu0∈l:=by simp [hk]
 have:=h _ this
 exact ⟨this.2.2.2.2.1,this.2.2.2.2.2⟩
def onMask (m:Nat) (c:Cpu):Bool:=m.testBit c.node.toNat
theorem bit8 (m n:Nat) (hm:m<256):(bits BinOp.and IntKind.u8 ((m:Int) / 2 ^ n) 1 == 1)=m.testBit n:=by
 have e:((m:Int) / 2 ^ n)=((m / 2 ^ n:Nat):Int):=by simp
 have hlt:m / 2 ^ n<256:=Nat.lt_of_le_of_lt (Nat.div_le_self _ _) hm
 rw [e,Nat.testBit_eq_decide_div_mod_eq]
 generalize m / 2 ^ n=q at hlt
 have key:∀ q:Fin 256,(bits BinOp.and IntKind.u8 ((q.val:Nat):Int) 1 == 1)=decide (q.val % 2=1):=by decide +kernel
 exact key ⟨q,hlt⟩
end
section
open Go.ChangeShapes Go.WideShapes Go.ChangeAt Go.RowKit
open Ost (Cpu cpu0)
theorem own:ownKnob Tryz.prog.godebug=none:=by kernel_rfl
theorem cells_CPU:Tryz.prog.cellsOf 78=3:=by kernel_rfl
theorem cells_int:Tryz.prog.cellsOf 3=1:=by kernel_rfl
instance:Inhabited Cpu:=⟨cpu0⟩
theorem cpu_of_trod {H:Type} {enc:TypeId × Value→H} {w:World} {base:Nat} {sp:Nat→Bool} {held:Bool} {fuel:Nat} {cs:List Value} {x:DataW H × List MemPlace}
  (h:DataW.trod enc Tryz.prog w base sp held fuel 78 cs=some x):∃ y:Cpu,cs=[.int .i64 y.core,.int .i64 y.sock,.int .i64 y.node]:=by
 obtain ⟨y0,y1,y2,n,_,hl,h0,h1,h2⟩:=Deep.trod_struct3 Tryz.underlying78 h
 rw [cells_CPU] at hl
 rw [cells_int] at h0 h1 h2
 match cs,hl with
 | [a,b,c],_=>
  obtain ⟨p,e0,_,_⟩:=DataW.trod_int Tryz.underlying3 h0
  obtain ⟨q,e1,_,_⟩:=DataW.trod_int Tryz.underlying3 h1
  obtain ⟨r,e2,_,_⟩:=DataW.trod_int Tryz.underlying3 h2
  simp at e0 e1 e2
  exact ⟨⟨p,q,r⟩,by rw [e0,e1,e2]⟩
theorem cpus_of_trod {H:Type} {enc:TypeId × Value→H} {W:World} {ao:Option Addr} {len cap:Nat} {d:DataW H} {p:List MemPlace}
  (h:DataW.Trod enc Tryz.prog W 0 (fun _=>true) true 22 (.slice ao len cap) d p):∃ l:List Cpu,l.length=len∧CpusAt W (.slice ao l.length cap) l:=by
 obtain ⟨fuel,hf⟩:=h
 rcases Deep.open_slice Tryz.underlying22 hf with ⟨hcs,_⟩|⟨a,len',cap',m,n,D,Pl,hcs,_,hl,hm,hmm,_,hx⟩
 ·simp [Value.cells] at hcs
  obtain ⟨rfl,rfl,rfl⟩:=hcs
  exact ⟨[],rfl,.inl ⟨rfl,none,0,rfl⟩⟩
 ·simp [Value.cells] at hcs
  obtain ⟨rfl,rfl,rfl⟩:=hcs
  rw [if_pos rfl] at hmm
  subst hmm
  rw [cells_CPU] at hx
  obtain ⟨f,hfx⟩:=Deep.choose_lt (α:=Cpu) (n:=len) (p:=fun i y=>W.cell? (a.add (i*3))=some (.int .i64 y.core)∧W.cell? (a.add (i*3+1))=some (.int .i64 y.sock)∧W.cell? (a.add (i*3+2))=some (.int .i64 y.node)) (fun i hi=>by
   obtain ⟨cs',h1,h2⟩:=hx i (by omega)
   obtain ⟨y,rfl⟩:=cpu_of_trod h2
   obtain ⟨_,_,hc⟩:=World.cells?_some h1
   have e0:=hc 0 (by omega)
   have e1:=hc 1 (by omega)
   have e2:=hc 2 (by omega)
   rw [Deep.add_add] at e0 e1 e2
   exact ⟨y,by simpa using e0,by simpa using e1,by simpa using e2⟩)
  refine ⟨(List.range len).map f,by simp,?_⟩
  by_cases hn0:len=0
  ·subst hn0
   exact .inl ⟨rfl,_,_,rfl⟩
  ·obtain ⟨b,off,spot⟩:=a
   have hc:=(hfx 0 (by omega)).1
   have hspot:spot=none:=by simpa [Addr.add] using World.cell?_spot hc
   subst hspot
   refine .inr ⟨b,off,_,rfl,fun k hk=>?_⟩
   have hk':k<len:=by simpa using hk
   obtain ⟨h0,h1,h2⟩:=hfx k hk'
   rw [Addr.add_lit] at h0 h1 h2
   have e:((List.range len).map f).getD k cpu0=f k:=by simp [hk']
   rw [e]
   exact ⟨h0,by rw [Nat.add_assoc];exact h1,by rw [Nat.add_assoc];exact h2⟩
end
section
open Go.RowKit
open Dvs (Dv dv0 dv nth isLet isNum okB allTo nameMay)
theorem letter_any (x:UInt8) (w:World):Calls Tryz.prog 84 #[.int .u8 x.toNat] w fun e w'=>e=.returned (.bool (isLet x))∧w'=w:=by
 unfold isLet
 by_cases h1:97≤x.toNat
 all_goals by_cases h2:x.toNat≤122
 ·go_enter Tryz.func84,Tryz.ntmps84
  go_wp2_with fail
  go_ret
  refine ⟨?_,rfl⟩
  simp [h1,h2]
  try omega
 ·go_enter Tryz.func84,Tryz.ntmps84
  go_wp2_with fail
  go_ret
  refine ⟨?_,rfl⟩
  simp [h1,h2]
  try omega
 ·go_enter Tryz.func84,Tryz.ntmps84
  go_wp2_with fail
  go_ret
  refine ⟨?_,rfl⟩
  simp
  try omega
 ·omega
theorem digit_bool (x:UInt8) (w:World):Calls Tryz.prog 83 #[.int .u8 x.toNat] w fun e w'=>(∃ n,e=.returned (.tuple #[.int .i64 n,.bool (isNum x)]))∧w'=w:=by
 cases h:isNum x
 ·exact (digit_no x w h).mono fun e w' ⟨he,hw⟩=>⟨⟨_,he⟩,hw⟩
 ·exact (digit_yes x w h).mono fun e w' ⟨he,hw⟩=>⟨⟨_,he⟩,hw⟩
theorem name_any (s:ByteArray) (w:World):Calls Tryz.prog 46 #[.string s] w fun e w'=>e=.returned (.bool (nameMay s))∧w'=w:=by
 by_cases he:s.size=0
 ·have hem:s.toList.isEmpty=true:=by rw [Ost.toList_isEmpty];simp [he]
  rw [Dvs.nameMay_none he]
  clear he
  go_enter Tryz.func46,Tryz.ntmps46
  go_wp2_with fail
  go_ret
  exact ⟨rfl,rfl⟩
 have hem:s.toList.isEmpty=false:=by rw [Ost.toList_isEmpty];simp [he]
 by_cases h8:8<s.size
 ·rw [Dvs.nameMay_long h8]
  go_enter Tryz.func46,Tryz.ntmps46
  go_wp2_with fail
  go_ret
  exact ⟨rfl,rfl⟩
 have h8':s.size≤8:=by omega
 rw [Dvs.nameMay_all (by omega) h8']
 clear h8 he
 go_enter Tryz.func46,Tryz.ntmps46
 go_wp2_with fail
 go_loop [15] (fun i=>∃ k:Nat,k≤s.size∧i=.int .i64 k∧Hid (allTo (okB s) k=true)) (fun i=>s.size - (intOf i).toNat)
 case atStart=>exact ⟨0,Nat.zero_le _,rfl,rfl⟩
 case round=>
  obtain ⟨k,hk,rfl,HA⟩:=hrel
  by_cases hlt:k<s.size
  ·have HO:=hZz (Dvs.okB_at s k hlt)
   rcases two (isLet s[k]) with hl|hl
   ·have HN:Hid (allTo (okB s) (k+1)=true):=Dvs.allTo_yes HA.out (by rw [HO.out,hl];rfl)
    go_wp2_with fail
    refine (digit_bool _ _).mono ?_
    rintro e w1 ⟨⟨n,rfl⟩,rfl⟩
    go_wp2_with fail
    refine (letter_any _ _).mono ?_
    rintro e w1 ⟨rfl,rfl⟩
    rw [hl]
    go_wp2_with fail
    go_round
    case rel=>exact ⟨k+1,by omega,by go_num,HN⟩
    case measure=>simp [intOf];omega
   ·rcases two (isNum s[k]) with hn|hn
    ·by_cases h0:0<k
     ·have HN:Hid (allTo (okB s) (k+1)=true):=Dvs.allTo_yes HA.out (by rw [HO.out,hl,hn,decide_eq_true h0];rfl)
      go_wp2_with fail
      refine (digit_bool _ _).mono ?_
      rintro e w1 ⟨⟨n,rfl⟩,rfl⟩
      rw [hn]
      go_wp2_with fail
      refine (letter_any _ _).mono ?_
      rintro e w1 ⟨rfl,rfl⟩
      rw [hl]
      go_wp2_with fail
      go_round
      case rel=>exact ⟨k+1,by omega,by go_num,HN⟩
      case measure=>simp [intOf];omega
     ·have HN:Hid (allTo (okB s) s.size=false):=Dvs.allTo_no (k:=k) (by rw [HO.out,hl,hn,decide_eq_false h0];rfl) hlt
      have hk0:k=0:=by omega
      subst hk0
      go_wp2_with fail
      refine (digit_bool _ _).mono ?_
      rintro e w1 ⟨⟨n,rfl⟩,rfl⟩
      rw [hn]
      go_wp2_with fail
      refine (letter_any _ _).mono ?_
      rintro e w1 ⟨rfl,rfl⟩
      rw [hl]
      go_wp2_with fail
      go_ret
      exact ⟨congrArg (fun b=>Ending.returned (.bool b)) HN.out.symm,rfl⟩
    ·have HN:Hid (allTo (okB s) s.size=false):=Dvs.allTo_no (k:=k) (by rw [HO.out,hl,hn];rfl) hlt
     go_wp2_with fail
     refine (digit_bool _ _).mono ?_
     rintro e w1 ⟨⟨n,rfl⟩,rfl⟩
     rw [hn]
     go_wp2_with fail
     refine (letter_any _ _).mono ?_
     rintro e w1 ⟨rfl,rfl⟩
     rw [hl]
     go_wp2_with fail
     go_ret
     exact ⟨congrArg (fun b=>Ending.returned (.bool b)) HN.out.symm,rfl⟩
  ·have hke:k=s.size:=by omega
   have HN:Hid (allTo (okB s) s.size=true):=by rw [← hke];exact HA
   clear hke HA
   go_wp2_with fail
   go_ret
   exact ⟨congrArg (fun b=>Ending.returned (.bool b)) HN.out.symm,rfl⟩
end
section
namespace Ost
def low (f:Cpu→Int) (l:List Cpu) (k:Nat):Nat:=chosen (fun x=>decide (f x<k)) l
def at' (f:Cpu→Int) (l:List Cpu) (k:Nat):Nat:=chosen (fun x=>f x == (k:Int)) l
end Ost
end
section
namespace Ost
def decN (n:Nat):List UInt8:=Lib.decDigits n
theorem decN_small (n:Nat) (h:n<10):decN n=[UInt8.ofNat (48+n)]:=Lib.decDigits_one h
theorem decN_big (n:Nat) (h:¬ n<10):decN n=decN (n / 10)++[UInt8.ofNat (48+n % 10)]:=by
 unfold decN;rw [Lib.decDigits,dif_neg h]
theorem decN_len (k n:Nat) (h:n<10 ^ (k+1)):(decN n).length≤k+1:=by
 induction k generalizing n with
 | zero=>rw [decN_small n (by simpa using h)];simp
 | succ k ih=>
  by_cases hs:n<10
  ·rw [decN_small n hs];simp
  ·rw [decN_big n hs,List.length_append]
   have:=ih (n / 10) (by rw [Nat.pow_succ] at h;omega)
   simp;omega
end Ost
end
namespace S1
open Go.RowKit
theorem two (b:Bool):b=true∨b=false:=by cases b <;> simp
theorem hZz {p:Prop} (h:p):Hid p:=h
end S1
namespace S1
open Go.RowKit
end S1
section
namespace Ost
theorem land_split (a m q n:Nat) (ha:a<256) (hm:m<256):(a+256*q) &&& (m+256*n)=(a &&& m)+256*(q &&& n):=by
 have h1:∀ x y:Nat,x<256→x+256*y=2 ^ 8*y ||| x:=fun x y hx=>by
  rw [← Nat.two_pow_add_eq_or_of_lt (i:=8) hx];omega
 have h2:a &&& m<256:=Nat.lt_of_le_of_lt Nat.and_le_left ha
 rw [h1 a q ha,h1 m n hm,h1 _ (q &&& n) h2]
 apply Nat.eq_of_testBit_eq
 intro i
 simp only [Nat.testBit_and,Nat.testBit_or,Nat.testBit_two_pow_mul]
 by_cases hi:8≤i
 ·have e1:a.testBit i=false:=Nat.testBit_lt_two_pow (Nat.lt_of_lt_of_le ha (Nat.pow_le_pow_right (n:=2) (by omega) hi))
  have e2:m.testBit i=false:=Nat.testBit_lt_two_pow (Nat.lt_of_lt_of_le hm (Nat.pow_le_pow_right (n:=2) (by omega) hi))
  simp [e1,e2,hi]
 ·simp [hi]
def M0:Nat→Nat
 | 0=>0
 | k+1=>85+256*M0 k
def M1:Nat→Nat
 | 0=>0
 | k+1=>51+256*M1 k
def M2:Nat→Nat
 | 0=>0
 | k+1=>15+256*M2 k
def p1 (k x:Nat):Nat:=(x / 2 &&& M0 k)+(x &&& M0 k)
def p2 (k x:Nat):Nat:=(x / 4 &&& M1 k)+(x &&& M1 k)
def p3 (k x:Nat):Nat:=(x / 16+x) &&& M2 k
def f1 (b:Nat):Nat:=(b / 2 &&& 85)+(b &&& 85)
def f2 (b:Nat):Nat:=(b / 4 &&& 51)+(b &&& 51)
def f3 (b:Nat):Nat:=(b / 16+b) &&& 15
theorem c1:∀ (b:Fin 256) (c:Fin 2),(b.val / 2+128*c.val) &&& 85=b.val / 2 &&& 85:=by decide +kernel
theorem c2:∀ (b:Fin 256) (c:Fin 4),(b.val / 4+64*c.val) &&& 51=b.val / 4 &&& 51:=by decide +kernel
theorem c3:∀ (b:Fin 256) (c:Fin 5),(f2 (f1 b.val) / 16+f2 (f1 b.val)+16*c.val) &&& 15=f3 (f2 (f1 b.val)):=by decide +kernel
theorem c4:∀ b:Fin 256,f1 b.val<256∧f2 (f1 b.val)<69∧f2 (f1 b.val) % 16≤4∧f3 (f2 (f1 b.val))≤8:=by decide +kernel
theorem p1_step (k b q:Nat) (hb:b<256):p1 (k+1) (b+256*q)=f1 b+256*p1 k q:=by
 unfold p1 f1
 have e:(b+256*q) / 2=(b / 2+128*(q % 2))+256*(q / 2):=by omega
 rw [e,M0,land_split _ 85 _ _ (by omega) (by omega),land_split b 85 q _ hb (by omega)]
 have h:=c1 ⟨b,hb⟩ ⟨q % 2,by omega⟩
 simp only at h
 rw [h]
 generalize b / 2 &&& 85=u1
 generalize b &&& 85=u2
 generalize q / 2 &&& M0 k=u3
 generalize q &&& M0 k=u4
 omega
theorem p2_step (k b q:Nat) (hb:b<256):p2 (k+1) (b+256*q)=f2 b+256*p2 k q:=by
 unfold p2 f2
 have e:(b+256*q) / 4=(b / 4+64*(q % 4))+256*(q / 4):=by omega
 rw [e,M1,land_split _ 51 _ _ (by omega) (by omega),land_split b 51 q _ hb (by omega)]
 have h:=c2 ⟨b,hb⟩ ⟨q % 4,by omega⟩
 simp only at h
 rw [h]
 generalize b / 4 &&& 51=u1
 generalize b &&& 51=u2
 generalize q / 4 &&& M1 k=u3
 generalize q &&& M1 k=u4
 omega
theorem p21_step (k x:Nat):p2 (k+1) (p1 (k+1) x)=f2 (f1 (x % 256))+256*p2 k (p1 k (x / 256)):=by
 have hb:x % 256<256:=Nat.mod_lt _ (by omega)
 conv=>lhs;rw [show x=x % 256+256*(x / 256) by omega]
 rw [p1_step k _ _ hb,p2_step k _ _ (c4 ⟨_,hb⟩).1]
theorem p21_low (k x:Nat):p2 k (p1 k x) % 16≤4:=by
 cases k with
 | zero=>simp [p2,M1]
 | succ k=>
  have hb:x % 256<256:=Nat.mod_lt _ (by omega)
  have h:=(c4 ⟨x % 256,hb⟩).2.2.1
  rw [p21_step]
  simp only at h
  omega
def G (k x:Nat):Nat:=p3 k (p2 k (p1 k x))
def g8 (b:Nat):Nat:=f3 (f2 (f1 b))
theorem G_step (k x:Nat):G (k+1) x=g8 (x % 256)+256*G k (x / 256):=by
 have hb:x % 256<256:=Nat.mod_lt _ (by omega)
 unfold G g8
 rw [p21_step]
 have hq:=p21_low k (x / 256)
 generalize hQ:p2 k (p1 k (x / 256))=Q at hq ⊢
 have hF:=(c4 ⟨x % 256,hb⟩).2.1
 have h3:=c3 ⟨x % 256,hb⟩ ⟨Q % 16,by omega⟩
 simp only at hF h3
 generalize f2 (f1 (x % 256))=F at hF h3 ⊢
 unfold p3
 have e:(F+256*Q) / 16+(F+256*Q)=(F / 16+F+16*(Q % 16))+256*(Q / 16+Q):=by omega
 rw [e,M2,land_split _ 15 _ _ (by omega) (by omega),h3]
theorem testBit_low (b q i:Nat) (hb:b<256):(b+256*q).testBit i=if i<8 then b.testBit i else q.testBit (i - 8):=by
 have e:b+256*q=2 ^ 8*q+b:=by omega
 rw [e,Nat.testBit_two_pow_mul_add q (i:=8) hb]
theorem listTo_low (b q k:Nat) (hb:b<256):(listTo (b+256*q) (8+k)).length=(listTo b 8).length+(listTo q k).length:=by
 induction k with
 | zero=>
  have:listTo (b+256*q) (8+0)=listTo b 8:=by
   unfold listTo
   apply List.filter_congr
   intro i hi
   rw [testBit_low b q i hb,if_pos (by simpa using hi)]
  rw [this];rfl
 | succ k ih=>
  show (listTo (b+256*q) ((8+k)+1)).length=_
  have e:(b+256*q).testBit (8+k)=q.testBit k:=by
   rw [testBit_low b q _ hb,if_neg (by omega),show 8+k - 8=k by omega]
  rw [listTo_succ,listTo_succ q,e]
  by_cases h:q.testBit k=true
  ·rw [if_pos h,if_pos h,List.length_append,List.length_append,ih];simp;omega
  ·rw [if_neg h,if_neg h,ih]
theorem c5:∀ b:Fin 256,g8 b.val=(listTo b.val 8).length:=by decide +kernel
theorem listTo_step (x k:Nat):(listTo x (8+k)).length=g8 (x % 256)+(listTo (x / 256) k).length:=by
 have hb:x % 256<256:=Nat.mod_lt _ (by omega)
 conv=>lhs;rw [show x=x % 256+256*(x / 256) by omega]
 rw [listTo_low _ _ k hb,← c5 ⟨_,hb⟩]
theorem g8_le (x:Nat):g8 (x % 256)≤8:=(c4 ⟨x % 256,Nat.mod_lt _ (by omega)⟩).2.2.2
theorem pop_sum (x:Nat):∃ a b c d e f g h:Nat,a≤8∧b≤8∧c≤8∧d≤8∧e≤8∧f≤8∧g≤8∧h≤8∧
  G 8 x=a+256*(b+256*(c+256*(d+256*(e+256*(f+256*(g+256*h))))))∧(listTo x 64).length=a+b+c+d+e+f+g+h:=by
 refine ⟨_,_,_,_,_,_,_,_,g8_le x,g8_le (x / 256),g8_le (x / 256 / 256),g8_le (x / 256 / 256 / 256),g8_le (x / 256 / 256 / 256 / 256),g8_le (x / 256 / 256 / 256 / 256 / 256),g8_le (x / 256 / 256 / 256 / 256 / 256 / 256),g8_le (x / 256 / 256 / 256 / 256 / 256 / 256 / 256),?_,?_⟩
 ·rw [G_step,G_step,G_step,G_step,G_step,G_step,G_step,G_step]
  have:∀ y,G 0 y=0:=fun y=>by simp [G,p3,M2]
  rw [this,Nat.mul_zero,Nat.add_zero]
 ·rw [listTo_step x 56,listTo_step (x / 256) 48,listTo_step (x / 256 / 256) 40,listTo_step (x / 256 / 256 / 256) 32,listTo_step (x / 256 / 256 / 256 / 256) 24,listTo_step (x / 256 / 256 / 256 / 256 / 256) 16,listTo_step (x / 256 / 256 / 256 / 256 / 256 / 256) 8,listTo_step (x / 256 / 256 / 256 / 256 / 256 / 256 / 256) 0]
  have:∀ y,(listTo y 0).length=0:=fun y=>rfl
  rw [this];omega
end Ost
end
section
open Go.RowKit
def NormalAtW (R:Act→World→Prop):Exit→Act→World→Prop
 | .normal,a,w=>R a w
 | _,_,_=>False
theorem NormalAtW.mk {R:Act→World→Prop} {a:Act} {w:World} (h:R a w):NormalAtW R .normal a w:=h
section
variable {P:Program} {ops:Array Oper} {Q:Exit→Act→World→Prop} {l n:Nat}
end
end
section
open Go.RowKit
open Qos (Nd Ct Pd nd0 ct0 pd0 nd ct pd needF contF podF amtOk over twice leS)
open Dvs (nameMay first)
theorem within_any (n a b:Int) (w:World):Calls Tryz.prog 47 #[.int .i64 n,.int .i64 a,.int .i64 b] w fun e w'=>e=.returned (.bool (decide (a≤n) && decide (n≤b)))∧w'=w:=by
 by_cases h1:a≤n
 ·go_enter Tryz.func47,Tryz.ntmps47
  go_wp2_with fail
  go_ret
  exact ⟨by simp [h1],rfl⟩
 ·have h2:n<a:=by omega
  have h3:decide (a≤n)=false:=decide_eq_false h1
  rw [h3]
  clear h1
  go_enter Tryz.func47,Tryz.ntmps47
  go_wp2_with fail
  go_ret
  exact ⟨by simp,rfl⟩
theorem beyond_any (a c:Int) (w:World):Calls Tryz.prog 88 #[.int .i64 a,.int .i64 c] w fun e w'=>e=.returned (.bool (over a c))∧w'=w:=by
 unfold over
 by_cases h1:c=0
 ·subst h1
  go_enter Tryz.func88,Tryz.ntmps88
  go_wp2_with fail
  go_ret
  exact ⟨by simp,rfl⟩
 ·go_enter Tryz.func88,Tryz.ntmps88
  go_wp2_with fail
  go_ret
  exact ⟨by simp [h1],rfl⟩
theorem bounded_anyQ (m b:Int) (w:World):Calls Tryz.prog 87 #[.agg #[.int .i64 m,.int .i64 b]] w fun e w'=>e=.returned (.bool (amtOk m b))∧Below w.heap.size w w':=by
 unfold amtOk
 go_enter Tryz.func87,Tryz.ntmps87
 go_wp2_with fail
 refine (within_any _ _ _ _).mono ?_
 rintro e w1 ⟨rfl,rfl⟩
 rcases two (decide (0≤m) && decide (m≤1000000)) with e1|e1
 ·rw [e1]
  go_wp2_with fail
  refine (within_any _ _ _ _).mono ?_
  rintro e w1 ⟨rfl,rfl⟩
  go_wp2_with fail
  go_ret
  refine ⟨?_,(Below.refl w.heap.size w).alloc (Nat.le_refl _) _⟩
  rw [e1]
  simp
 ·rw [e1]
  go_wp2_with fail
  go_ret
  refine ⟨?_,(Below.refl w.heap.size w).alloc (Nat.le_refl _) _⟩
  rw [e1]
  rfl
theorem checkNeeds_any (v:Value) (ds:List Nd) (w:World) (h:NeedsAt w v ds):Calls Tryz.prog 89 #[v] w fun e w'=>e=.returned (errV (if 3<ds.length then (2:Nat) else first (needF ds) ds.length:Nat))∧Below w.heap.size w w':=by
 obtain ⟨ao,c,rfl,hm,hr⟩:=h
 clear hm
 have HR:=hZz hr
 clear hr
 by_cases h3:3<ds.length
 ·rw [if_pos h3]
  go_enter Tryz.func89,Tryz.ntmps89
  go_wp2_with fail
  go_ret
  exact ⟨rfl,Below.refl _ _⟩
 rw [if_neg h3]
 have h3':ds.length≤3:=by omega
 clear h3
 have hd:decide (3<(ds.length:Int))=false:=decide_eq_false (by omega)
 go_enter Tryz.func89,Tryz.ntmps89
 go_wp2_with fail
 go_loopw [3,12] (fun la i wr=>∃ k:Nat,k≤ds.length∧i=.int .i64 k∧la=.string (Qos.lastOf ds k)∧Below w.heap.size w wr∧Hid (first (needF ds) k=0)) (fun _ i _=>ds.length - (intOf i).toNat)
 case atStart=>exact ⟨0,by omega,rfl,rfl,Below.refl _ _,rfl⟩
 case round=>
  obtain ⟨k,hk,rfl,rfl,hB,HF⟩:=hrel
  by_cases hlt:k<ds.length
  ·obtain ⟨b,o,rfl,hlb,hcs⟩:=HR.out (by omega)
   obtain ⟨g0,g1⟩:=hcs k hlt
   have c0:=(hB.cell (p:=⟨b,o+k*2,none⟩) hlb).trans g0
   have c1:=(hB.cell (p:=⟨b,o+k*2+1,none⟩) hlb).trans g1
   have HN:=hZz (@Qos.need_name ds k)
   have HL:=hZz (@Qos.need_le ds k)
   have HM:=hZz (@Qos.need_many ds k)
   have HS:=hZz (Qos.last_succ ds k)
   have hB1:=hZz (hB.alloc hB.size (.cells #[.string (nd ds k).kind,.int .i64 (nd ds k).many] 80))
   clear g0 g1 hcs hB
   have HX:Hid (∃ la,la=Qos.lastOf ds k):=⟨_,rfl⟩
   generalize Qos.lastOf ds k=la at *
   generalize nd ds k=x at *
   rcases two (nameMay x.kind) with hn|hn
   ·rcases two (leS x.kind la) with hl|hl
    ·have he:=HL.out hn hl
     have HA:=hZz (Dvs.first_hit HF.out (by rw [he];decide) hlt)
     have hl':(Op.bytesLess x.kind.toList la.toList || x.kind.toList == la.toList)=true:=hl
     go_wp2_with fail
     refine (name_any _ _).mono ?_
     rintro e w1 ⟨rfl,rfl⟩
     rw [hn]
     go_wp2_with fail
     go_ret
     exact ⟨by rw [HA.out,he];rfl,hB1.out⟩
    ·have he:=HM.out hn hl
     have hl':(Op.bytesLess x.kind.toList la.toList || x.kind.toList == la.toList)=false:=hl
     go_wp2_with fail
     refine (name_any _ _).mono ?_
     rintro e w1 ⟨rfl,rfl⟩
     rw [hn]
     go_wp2_with fail
     refine (within_any _ _ _ _).mono ?_
     rintro e w1 ⟨rfl,rfl⟩
     by_cases hm:x.many<1∨16<x.many
     ·rw [if_pos hm] at he
      have HA:=hZz (Dvs.first_hit HF.out (by rw [he];decide) hlt)
      rw [show (decide (1≤x.many) && decide (x.many≤16))=false by simp;omega]
      go_wp2_with fail
      go_ret
      exact ⟨by rw [HA.out,he];rfl,hB1.out⟩
     ·rw [if_neg hm] at he
      rw [show (decide (1≤x.many) && decide (x.many≤16))=true by simp;omega]
      go_wp2_with fail
      go_roundw
      case rel=>exact ⟨k+1,by omega,by go_num,by rw [HS.out],hB1.out,Dvs.first_zero HF.out he⟩
      case measure=>simp [intOf];omega
   ·have he:=HN.out hn
    have HA:=hZz (Dvs.first_hit HF.out (by rw [he];decide) hlt)
    go_wp2_with fail
    refine (name_any _ _).mono ?_
    rintro e w1 ⟨rfl,rfl⟩
    rw [hn]
    go_wp2_with fail
    go_ret
    exact ⟨by rw [HA.out,he];rfl,hB1.out⟩
  ·have hke:k=ds.length:=by omega
   subst hke
   have hB1:=hZz hB
   clear hB
   go_wp2_with fail
   go_ret
   exact ⟨by rw [HF.out];rfl,hB1.out⟩
end
section
open Go.RowKit Go.ChangeMaps Go.Maps Go.WideShapes
def RV.key (x:RV):Lit:=nameL x.pod x.cont
def RV.Short (x:RV):Prop:=x.pod.size≤7000∧x.cont.size≤7000
theorem short_max {n:Nat} (h:n≤7000):n≤maxLen:=by unfold maxLen;omega
theorem RV.keyOf {x:RV} (h:x.Short):keyOf Tryz.prog 212 (nameV x.pod x.cont)=some x.key:=nameKey _ _ (short_max h.1) (short_max h.2)
theorem RV.key_eq {x:RV} (h:x.Short) {a b:ByteArray} (ha:a.size≤7000) (hb:b.size≤7000):x.key=nameL a b↔(x.pod=a∧x.cont=b):=by
 constructor
 ·exact fun e=>nameL_inj (short_max h.1) (short_max h.2) (short_max ha) (short_max hb) e
 ·rintro ⟨rfl,rfl⟩;rfl
theorem name_same (a b c d:ByteArray):(nameL a b).sameKey (nameL c d)=true↔nameL a b=nameL c d:=by
 constructor
 ·exact WideAt.sameKey_eq
 ·intro e;rw [e];exact WideAt.sameKey_self trivial
def ents (xs:List RV):List (Lit × DataW Value):=xs.map fun x=>(x.key,.held x.val)
def MapR (w:World) (B n:Nat) (xs:List RV):Prop:=(∀ x∈xs,x.Short)∧∃ es,w.ownsMap Tryz.prog 212 rvElem B n (.map es)∧es.Perm (ents xs)
theorem MapR.lt {w:World} {B n:Nat} {xs:List RV} (h:MapR w B n xs):B<w.heap.size:=by
 obtain ⟨_,es,ho,_⟩:=h
 exact ho.lt
theorem MapR.block {w w':World} {B n:Nat} {xs:List RV} (h:MapR w B n xs) (hb:w'.heap[B]?=w.heap[B]?):MapR w' B n xs:=by
 obtain ⟨hs,es,⟨ms,clock,hh,r⟩,hp⟩:=h
 exact ⟨hs,es,⟨ms,clock,hb.trans hh,r⟩,hp⟩
theorem MapR.made (w:World):MapR (w.alloc (.map #[] 0)) w.heap.size 0 []:=
 ⟨fun x hx=>by simp at hx,[],World.ownsMap_made w _ _ _,List.Perm.nil⟩
theorem MapR.keys {w:World} {B n:Nat} {xs:List RV} (h:MapR w B n xs):(xs.map RV.key).Nodup:=by
 obtain ⟨hs,es,ho,he⟩:=h
 obtain ⟨es',e,hd,_⟩:=ho.entries keyN
 cases e
 have h1:(es.map Prod.fst).Nodup:=List.pairwise_map.2 hd
 have h2:=(he.map Prod.fst).nodup_iff.1 h1
 unfold ents at h2
 rw [List.map_map] at h2
 exact h2
theorem MapR.has {w:World} {B n:Nat} {xs:List RV} (h:MapR w B n xs) {es:List (Lit × DataW Value)} (he:es.Perm (ents xs)) {a b:ByteArray} (ha:a.size≤7000) (hb:b.size≤7000) :
  Maps.has (.map es) (nameL a b)=xs.any fun x=>decide (x.pod=a∧x.cont=b):=by
 rw [Maps.has_eq,Bool.eq_iff_iff,List.any_eq_true,List.any_eq_true]
 constructor
 ·rintro ⟨p,hp,hk⟩
  obtain ⟨x,hx,rfl⟩:=List.mem_map.1 (he.mem_iff.1 hp)
  exact ⟨x,hx,decide_eq_true ((RV.key_eq (h.1 x hx) ha hb).1 (WideAt.sameKey_eq hk))⟩
 ·rintro ⟨x,hx,hk⟩
  refine ⟨(x.key,.held x.val),he.mem_iff.2 (List.mem_map.2 ⟨x,hx,rfl⟩),?_⟩
  rw [show x.key=nameL a b from (RV.key_eq (h.1 x hx) ha hb).2 (of_decide_eq_true hk)]
  exact WideAt.sameKey_self trivial
theorem zeroRun (w:World):(zeroValue 154).run Tryz.prog w=.ok (RV.val ⟨ByteArray.empty,ByteArray.empty,0,none,0,0⟩) w:=by kernel_rfl
theorem MapR.put {w:World} {B n:Nat} {xs:List RV} (h:MapR w B n xs) (x:RV) (hx:x.Short) (hn:n<1000) (hno:(xs.any fun y=>decide (y.pod=x.pod∧y.cont=x.cont))=false) :
  ∃ w',(Instr.mapUpdate 131 (.map (some B)) (nameV x.pod x.cont) x.val).run Tryz.prog w=.ok () w'∧MapR w' B (n+1) (x :: xs)∧w.grownBy w' (some B)∧w'.heap.size=w.heap.size:=by
 obtain ⟨es,ho,he⟩:=h.2
 obtain ⟨w',hrun,ho',ht⟩:=ho.store keyN Tryz.underlying131 (by unfold maxLen;omega) (RV.keyOf hx) (rvElem_mk x)
 refine ⟨w',hrun,⟨fun y hy=>?_,putKey x.key (.held x.val) es,ho',?_⟩,ht.grown,?_⟩
 ·rcases List.mem_cons.1 hy with rfl|hy
  ·exact hx
  ·exact h.1 y hy
 ·unfold putKey
  refine (insert_perm _ _).trans ?_
  have hf:es.filter (notKey x.key)=es:=by
   refine List.filter_eq_self.2 fun p hp=>?_
   obtain ⟨y,hy,rfl⟩:=List.mem_map.1 (he.mem_iff.1 hp)
   have hne:¬ (y.pod=x.pod∧y.cont=x.cont):=of_decide_eq_false (by have:=List.any_eq_false.1 hno y hy;simpa using this)
   show (!y.key.sameKey x.key)=true
   rw [Bool.not_eq_true']
   refine sameKey_ne fun e=>hne ((RV.key_eq (h.1 y hy) hx.1 hx.2).1 e)
  rw [hf]
  exact List.Perm.cons _ he
 ·obtain ⟨es0,c0,es1,c1,_,rfl⟩:=ht
  simp [setBlock]
theorem MapR.drop {w:World} {B n:Nat} {xs:List RV} (h:MapR w B n xs) (a b:ByteArray) (ha:a.size≤7000) (hb:b.size≤7000) (ty:TypeId) :
  ∃ w',(Builtin.delete_ #[131,212] ty #[.map (some B),nameV a b]).run Tryz.prog w=.ok (.tuple #[]) w'∧MapR w' B n (xs.filter fun x=>!decide (x.pod=a∧x.cont=b))∧w.grownBy w' (some B)∧w'.heap.size=w.heap.size:=by
 obtain ⟨es,ho,he⟩:=h.2
 obtain ⟨w',hrun,ho',ht⟩:=ho.drop keyN Tryz.underlying131 (nameKey a b (short_max ha) (short_max hb)) ty
 refine ⟨w',hrun,⟨fun y hy=>h.1 y (List.mem_filter.1 hy).1,delKey (nameL a b) es,ho',?_⟩,ht.grown,?_⟩
 ·unfold delKey
  refine (he.filter _).trans ?_
  unfold ents
  rw [List.filter_map]
  have hfc:xs.filter (notKey (nameL a b) ∘ fun x:RV=>(x.key,(DataW.held x.val:DataW Value)))=xs.filter fun x=>!decide (x.pod=a∧x.cont=b):=by
   refine List.filter_congr fun x hx=>?_
   have e:x.key.sameKey (nameL a b)=decide (x.pod=a∧x.cont=b):=by
    rw [Bool.eq_iff_iff,decide_eq_true_iff]
    exact (name_same _ _ _ _).trans (RV.key_eq (h.1 x hx) ha hb)
   show (!x.key.sameKey (nameL a b))=_
   rw [e]
  rw [hfc]
 ·obtain ⟨es0,c0,es1,c1,_,rfl⟩:=ht
  simp [setBlock]
def Came (left:Lit→Bool) (xs pre:List RV):Prop:=∃ rest,xs.Perm (pre++rest)∧(∀ x∈pre,left x.key=false)∧∀ x∈rest,left x.key=true
theorem Came.start {xs:List RV} {es:List (Lit × DataW Value)} (he:es.Perm (ents xs)):Came (Maps.has (.map es)) xs []:=
 ⟨xs,by simp,fun x hx=>by simp at hx,fun x hx=>List.any_eq_true.2 ⟨(x.key,.held x.val),he.mem_iff.2 (List.mem_map.2 ⟨x,hx,rfl⟩),WideAt.sameKey_self trivial⟩⟩
theorem Came.finish {left:Lit→Bool} {xs pre:List RV} (h:Came left xs pre) (hl:∀ kl,left kl=false):pre.Perm xs:=by
 obtain ⟨rest,hp,_,hr⟩:=h
 have:rest=[]:=by
  cases rest with
  | nil=>rfl
  | cons x l=>have:=hr x (by simp);rw [hl] at this;cases this
 subst this
 rw [List.append_nil] at hp
 exact hp.symm
theorem at_mem {es:List (Lit × DataW Value)} {kl:Lit} {y:DataW Value} (hat:∀ zd,(DataW.map es).atKey kl zd=y):∃ p∈es,p.1=kl∧p.2=y:=by
 unfold DataW.atKey at hat
 simp only at hat
 cases hf:es.find? (fun p=>p.1.sameKey kl) with
 | none=>
  rw [hf] at hat
  have h1:=hat .nil
  have h2:=hat (.lit .nil)
  simp only at h1 h2
  rw [← h1] at h2
  cases h2
 | some p=>
  rw [hf] at hat
  exact ⟨p,List.mem_of_find?_eq_some hf,WideAt.sameKey_eq (List.find?_some (p:=fun q:Lit × DataW Value=>q.1.sameKey kl) hf),hat .nil⟩
theorem Came.step {left:Lit→Bool} {xs pre:List RV} {es:List (Lit × DataW Value)} (h:Came left xs pre) (he:es.Perm (ents xs)) (hk:(xs.map RV.key).Nodup) {kl:Lit} {c:RV} (hlk:left kl=true) (hat:∀ zd,(DataW.map es).atKey kl zd=.held c.val) :
  Came (fun z=>left z && !z.sameKey kl) xs (pre++[c])∧kl=c.key:=by
 obtain ⟨p,hp,rfl,hp2⟩:=at_mem hat
 obtain ⟨x,hx,rfl⟩:=List.mem_map.1 (he.mem_iff.1 hp)
 have e:x=c:=RV.val_inj (by simpa using hp2)
 subst e
 obtain ⟨rest,hpm,h1,h2⟩:=h
 have hmem:x∈rest:=by
  rcases List.mem_append.1 (hpm.mem_iff.1 hx) with hm|hm
  ·have:=h1 x hm
   rw [this] at hlk;cases hlk
  ·exact hm
 obtain ⟨r1,r2,rfl⟩:=List.append_of_mem hmem
 have hp3:xs.Perm ((pre++[x])++(r1++r2)):=by
  refine hpm.trans ?_
  rw [List.append_assoc]
  exact List.Perm.append_left _ List.perm_middle
 have hnd:((pre++(r1++x :: r2)).map RV.key).Nodup:=(hpm.map _).nodup_iff.1 hk
 refine ⟨⟨r1++r2,hp3,fun y hy=>?_,fun y hy=>?_⟩,rfl⟩
 ·rcases List.mem_append.1 hy with hm|hm
  ·show (left y.key && !y.key.sameKey x.key)=false
   rw [h1 y hm];rfl
  ·simp at hm
   subst hm
   show (left y.key && !y.key.sameKey y.key)=false
   rw [WideAt.sameKey_self (show WideAt.IsKeyLit y.key from trivial)];simp
 ·have hm:y∈r1++x :: r2:=by
   rcases List.mem_append.1 hy with hm|hm
   ·exact List.mem_append.2 (.inl hm)
   ·exact List.mem_append.2 (.inr (List.mem_cons_of_mem _ hm))
  have hne:y.key≠x.key:=by
   rw [List.map_append,List.nodup_append] at hnd
   have hnd2:=hnd.2.1
   have hp4:((x :: (r1++r2)).map RV.key).Nodup:=((List.perm_middle (a:=x) (l₁:=r1) (l₂:=r2)).map RV.key).nodup_iff.1 hnd2
   rw [List.map_cons,List.nodup_cons] at hp4
   exact fun e=>hp4.1 (by rw [← e];exact List.mem_map_of_mem hy)
  show (left y.key && !y.key.sameKey x.key)=true
  rw [h2 y hm,sameKey_ne hne]
  rfl
end
section
open Go.RowKit
theorem m0:Ost.M0 8=6148914691236517205:=by decide +kernel
theorem m1:Ost.M1 8=3689348814741910323:=by decide +kernel
theorem m2:Ost.M2 8=1085102592571150095:=by decide +kernel
theorem andN (a:Nat) (m:Nat) (ha:a<18446744073709551616) (hm:m<18446744073709551616) (z:Int) (hz:z=(a:Int)):bits BinOp.and IntKind.u64 z (m:Int)=((a &&& m:Nat):Int):=by
 rw [hz];exact bits_and_u64_nat a m ha hm
theorem wrapN (n:Nat) (z:Int) (hz:z=(n:Int)) (h:n<18446744073709551616):IntKind.u64.wrap z=(n:Int):=by
 rw [IntKind.wrap_u64,hz];omega
theorem ones1 (A:Nat) (hA:A<18446744073709551616):IntKind.u64.wrap (bits BinOp.and IntKind.u64 ((A:Int) / 2) 6148914691236517205+bits BinOp.and IntKind.u64 (A:Int) 6148914691236517205)=((Ost.p1 8 A:Nat):Int)∧Ost.p1 8 A<18446744073709551616:=by
 have e1:=andN (A / 2) 6148914691236517205 (by omega) (by omega) ((A:Int) / 2) (by omega)
 have e2:=andN A 6148914691236517205 hA (by omega) (A:Int) rfl
 have l1:A / 2 &&& 6148914691236517205≤6148914691236517205:=Nat.and_le_right
 have l2:A &&& 6148914691236517205≤6148914691236517205:=Nat.and_le_right
 have hp:Ost.p1 8 A=(A / 2 &&& 6148914691236517205)+(A &&& 6148914691236517205):=by unfold Ost.p1;rw [m0]
 rw [hp]
 refine ⟨?_,by omega⟩
 apply wrapN _ _ _ (by omega)
 rw [show (6148914691236517205:Int)=((6148914691236517205:Nat):Int) from rfl,e1,e2]
 omega
theorem ones2 (x:Nat) (hx:x<18446744073709551616):IntKind.u64.wrap (bits BinOp.and IntKind.u64 ((x:Int) / 4) 3689348814741910323+bits BinOp.and IntKind.u64 (x:Int) 3689348814741910323)=((Ost.p2 8 x:Nat):Int)∧Ost.p2 8 x≤7378697629483820646:=by
 have e1:=andN (x / 4) 3689348814741910323 (by omega) (by omega) ((x:Int) / 4) (by omega)
 have e2:=andN x 3689348814741910323 hx (by omega) (x:Int) rfl
 have l1:x / 4 &&& 3689348814741910323≤3689348814741910323:=Nat.and_le_right
 have l2:x &&& 3689348814741910323≤3689348814741910323:=Nat.and_le_right
 have hp:Ost.p2 8 x=(x / 4 &&& 3689348814741910323)+(x &&& 3689348814741910323):=by unfold Ost.p2;rw [m1]
 rw [hp]
 refine ⟨?_,by omega⟩
 apply wrapN _ _ _ (by omega)
 rw [show (3689348814741910323:Int)=((3689348814741910323:Nat):Int) from rfl,e1,e2]
 omega
theorem ones3 (x:Nat) (hx:x≤7378697629483820646):bits BinOp.and IntKind.u64 (IntKind.u64.wrap ((x:Int) / 16+(x:Int))) 1085102592571150095=((Ost.p3 8 x:Nat):Int):=by
 have hw:=wrapN (x / 16+x) ((x:Int) / 16+(x:Int)) (by omega) (by omega)
 rw [hw]
 have hp:Ost.p3 8 x=(x / 16+x) &&& 1085102592571150095:=by unfold Ost.p3;rw [m2]
 rw [hp]
 exact andN (x / 16+x) 1085102592571150095 (by omega) (by omega) _ rfl
def num8 (a b c d e f g h:Nat):Nat:=a+256*(b+256*(c+256*(d+256*(e+256*(f+256*(g+256*h))))))
theorem num8_lt (a b c d e f g h:Nat) (_ha:a≤64) (_hb:b≤64) (_hc:c≤64) (_hd:d≤64) (_he:e≤64) (_hf:f≤64) (_hg:g≤64) (_hh:h≤64):num8 a b c d e f g h<4700000000000000000:=by unfold num8;omega
theorem sh8 (a b c d e f g h:Nat) (_ha:a≤8) (_hb:b≤8) (_hc:c≤8) (_hd:d≤8) (_he:e≤8) (_hf:f≤8) (_hg:g≤8) (_hh:h≤8) :
  num8 a b c d e f g h+num8 a b c d e f g h / 256=num8 (a+b) (b+c) (c+d) (d+e) (e+f) (f+g) (g+h) h:=by
 have:num8 a b c d e f g h / 256=b+256*(c+256*(d+256*(e+256*(f+256*(g+256*h))))):=by unfold num8;omega
 rw [this];unfold num8;omega
theorem sh16 (a b c d e f g h:Nat) (_ha:a≤16) (_hb:b≤16) (_hc:c≤16) (_hd:d≤16) (_he:e≤16) (_hf:f≤16) (_hg:g≤16) (_hh:h≤16) :
  num8 a b c d e f g h+num8 a b c d e f g h / 65536=num8 (a+c) (b+d) (c+e) (d+f) (e+g) (f+h) g h:=by
 have:num8 a b c d e f g h / 65536=c+256*(d+256*(e+256*(f+256*(g+256*h)))):=by unfold num8;omega
 rw [this];unfold num8;omega
theorem sh32 (a b c d e f g h:Nat) (_ha:a≤32) (_hb:b≤32) (_hc:c≤32) (_hd:d≤32) (_he:e≤32) (_hf:f≤32) (_hg:g≤32) (_hh:h≤32) :
  num8 a b c d e f g h+num8 a b c d e f g h / 4294967296=num8 (a+e) (b+f) (c+g) (d+h) e f g h:=by
 have:num8 a b c d e f g h / 4294967296=e+256*(f+256*(g+256*h)):=by unfold num8;omega
 rw [this];unfold num8;omega
theorem num8_mod (a b c d e f g h:Nat) (_ha:a≤64):num8 a b c d e f g h % 128=a:=by unfold num8;omega
theorem steps (A:Nat) (hA:A<18446744073709551616):∃ x1 x2 X Y Z V:Nat,
  IntKind.u64.wrap (bits BinOp.and IntKind.u64 ((A:Int) / 2) 6148914691236517205+bits BinOp.and IntKind.u64 (A:Int) 6148914691236517205)=(x1:Int)∧
  IntKind.u64.wrap (bits BinOp.and IntKind.u64 ((x1:Int) / 4) 3689348814741910323+bits BinOp.and IntKind.u64 (x1:Int) 3689348814741910323)=(x2:Int)∧
  bits BinOp.and IntKind.u64 (IntKind.u64.wrap ((x2:Int) / 16+(x2:Int))) 1085102592571150095=(X:Int)∧
  IntKind.u64.wrap ((X:Int)+(X:Int) / 256)=(Y:Int)∧IntKind.u64.wrap ((Y:Int)+(Y:Int) / 65536)=(Z:Int)∧IntKind.u64.wrap ((Z:Int)+(Z:Int) / 4294967296)=(V:Int)∧
  V % 128=(Ost.listTo A 64).length∧V<4700000000000000000:=by
 obtain ⟨a,b,c,d,e,f,g,h,ha,hb,hc,hd,he,hf,hg,hh,hX,hS⟩:=Ost.pop_sum A
 have h1:=ones1 A hA
 have h2:=ones2 (Ost.p1 8 A) h1.2
 have h3:=ones3 (Ost.p2 8 (Ost.p1 8 A)) h2.2
 have hX2:Ost.p3 8 (Ost.p2 8 (Ost.p1 8 A))=num8 a b c d e f g h:=hX
 rw [hX2] at h3
 have l1:=num8_lt a b c d e f g h (by omega) (by omega) (by omega) (by omega) (by omega) (by omega) (by omega) (by omega)
 have s1:=sh8 a b c d e f g h ha hb hc hd he hf hg hh
 have l2:=num8_lt (a+b) (b+c) (c+d) (d+e) (e+f) (f+g) (g+h) h (by omega) (by omega) (by omega) (by omega) (by omega) (by omega) (by omega) (by omega)
 have s2:=sh16 (a+b) (b+c) (c+d) (d+e) (e+f) (f+g) (g+h) h (by omega) (by omega) (by omega) (by omega) (by omega) (by omega) (by omega) (by omega)
 have l3:=num8_lt (a+b+(c+d)) (b+c+(d+e)) (c+d+(e+f)) (d+e+(f+g)) (e+f+(g+h)) (f+g+h) (g+h) h (by omega) (by omega) (by omega) (by omega) (by omega) (by omega) (by omega) (by omega)
 have s3:=sh32 (a+b+(c+d)) (b+c+(d+e)) (c+d+(e+f)) (d+e+(f+g)) (e+f+(g+h)) (f+g+h) (g+h) h (by omega) (by omega) (by omega) (by omega) (by omega) (by omega) (by omega) (by omega)
 have l4:=num8_lt (a+b+(c+d)+(e+f+(g+h))) (b+c+(d+e)+(f+g+h)) (c+d+(e+f)+(g+h)) (d+e+(f+g)+h) (e+f+(g+h)) (f+g+h) (g+h) h (by omega) (by omega) (by omega) (by omega) (by omega) (by omega) (by omega) (by omega)
 refine ⟨_,_,_,num8 (a+b) (b+c) (c+d) (d+e) (e+f) (f+g) (g+h) h,num8 (a+b+(c+d)) (b+c+(d+e)) (c+d+(e+f)) (d+e+(f+g)) (e+f+(g+h)) (f+g+h) (g+h) h,_,h1.1,h2.1,h3,?_,?_,?_,num8_mod (a+b+(c+d)+(e+f+(g+h))) (b+c+(d+e)+(f+g+h)) (c+d+(e+f)+(g+h)) (d+e+(f+g)+h) (e+f+(g+h)) (f+g+h) (g+h) h (by omega) |>.trans (by rw [hS];omega),l4⟩
 ·exact wrapN _ _ (by rw [← s1];simp) (by omega)
 ·exact wrapN _ _ (by rw [← s2];simp) (by omega)
 ·exact wrapN _ _ (by rw [← s3];simp) (by omega)
theorem ones_any (A:Nat) (w:World) (hA:A<18446744073709551616) :
  Calls Tryz.prog 49 #[.int .u64 A] w fun e w'=>e=.returned (.int .i64 ((Ost.listTo A 64).length:Nat))∧w'=w:=by
 obtain ⟨x1,x2,X,Y,Z,V,r1,r2,r3,r4,r5,r6,e,hV⟩:=steps A hA
 have HE:=hZz e
 clear e
 go_enter Tryz.func49,Tryz.ntmps49
 go_wp2_with fail
 go_ret
 refine ⟨?_,rfl⟩
 have e:bits BinOp.and IntKind.i64 (V:Int) 127=((Ost.listTo A 64).length:Nat):=by
  rw [i64_and127];have:=HE.out;omega
 exact congrArg (fun z=>Ending.returned (.int .i64 z)) e
theorem bitsCount_any (A:Nat) (w:World) (hA:A<18446744073709551616) :
  Calls Tryz.prog 20 #[.int .u64 A] w fun e w'=>e=.returned (.int .i64 ((Ost.listTo A 64).length:Nat))∧w'=w:=by
 go_enter Tryz.func20,Tryz.ntmps20
 go_wp2_with fail
 refine (ones_any A _ hA).mono ?_
 rintro e w' ⟨rfl,rfl⟩
 go_wp2_with fail
 go_ret
 exact ⟨rfl,rfl⟩
end
end Go.Proofs.YtbfdcmodflnkfaaGreatDoor
