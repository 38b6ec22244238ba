import Derived.Test.YtjlblidnfebmiaaGreatDoorE14
import Derived.Test.YtjlblidnfebmiaaGreatDoorE12
import Derived.Lib.ItoaMem
set_option maxRecDepth 100000
set_option maxHeartbeats 16000000
open Go Go.RowKit Go.Shelf
attribute [local go_sem] Oper.semAt_some
open Go.Proofs.Tryz
namespace Go.Proofs.YtjlblidnfebmiaaGreatDoor
variable {B:Nat} {a b c w w':World} {bs:ByteArray} {wr:Bool}
section
open RowKit Go.Sort
theorem holds_zero0 (w:World) (T:TypeId) (n:Nat) (hs:n<=24):Holds (λ(b:UInt8)=>Value.int .u8 (b.toNat:Int)) (w.alloc (.cells Lib.zeros24 T)) w 0 (Array.replicate n (0:UInt8)):=λj a=>by
 have Ha:j<n:=by simpa using a
 refine ⟨?_,World.frozen?_alloc_new _ _ _ _⟩;rw [World.cell?_alloc_new,Lib.zeros24_at _ (by omega),getElem!_pos _ j a]
 simp
theorem M0 (w:World) (o:Obj) (c:Array UInt8) (k:Nat):∃ os,(putRow (λ(b:UInt8)=>Value.int .u8 (b.toNat:Int)) (w.alloc o) w 0 c).drewN k=grow (w.drewN k) os:=by
 rw [alloc_eq_grow];obtain ⟨a,_,e⟩:=putRow_grow_new (λ(b:UInt8)=>Value.int .u8 (b.toNat:Int)) w #[o] w 0 c (lR);exact ⟨a,by rw [e];rfl⟩
theorem M1 (u:Nat) (w:World) (a:u<18446744073709551616) (c:jR w) :
  Calls prog 232 #[.int .u64 u,(10:Int)] w λe w'=>e=.returned (.string ⟨(Lib.decDigits u).toArray⟩)/\Below w w w':=by
 by_cases hs:u<100
 ·have hd:decide ((u:Int)<100)=true:=Qc (by omega)
  go_enter func232,ntmps232
  go_wp2_with fail
  refine (Tryz.internal_strconv_small u hs _).mono ?_;rintro e w' ⟨rfl,rfl⟩
  go_wp2
  go_ret;exact ⟨rfl,Q0 _ _⟩
 ·have Hc:1<=u:=by omega
  have hd:decide ((u:Int)<100)=false:=Q7 (by omega);have He:Lib.nDigits u<=20:=by have:=Lib.numDigits_eq u Hc a;split at this <;> omega
  have Hf:∀ W,(Instr.sliceAt 373 w none (some (.int .i64 (Lib.nDigits u:Int))) none).run prog W=.ok (.slice w (Lib.nDigits u) 24) W:=λW=>by
   have Hg:prog.arrayLen 373=24:=by kernel_rfl
   rw [run_sliceAt_array_h W 373 w (by kernel_rfl) .i64 (Lib.nDigits u:Int) (by omega) (by rw [Hg];omega)];go_simp
  have Hb:=holds_zero0 w 373 (Lib.nDigits u) (by omega);have Ha:=Tryz.internal_strconv_formatBase10 w 0 24 u (Array.replicate (Lib.nDigits u) 0) (w.alloc (.cells Lib.zeros24 373)) Hb (by rw [Array.size_replicate];exact Lib.lt_pow_nDigits u) a (by rw [Array.size_replicate];omega);rw [Array.size_replicate] at Ha;have Hh:=qI Hb;have Hj:=qI Ha;have Hi:=qI (Lib.tabIs_alloc c (.cells Lib.zeros24 373));clear Hb Ha c
  go_enter func232,ntmps232
  go_wp2_with fail
  refine (Tryz.internal_strconv_numDigits u Hc a _ Hi.o).mono ?_;rintro e w' ⟨rfl,rfl⟩
  go_wp2_with fail
  refine Hj.o.mono ?_;rintro e w' ⟨rfl,k,l,d,rfl,g⟩;have Hk:(convert 243 9 (.slice w (Lib.nDigits u) 24)).run prog ((putRow (λ(b:UInt8)=>Value.int .u8 (b.toNat:Int)) (w.alloc (.cells Lib.zeros24 373)) w 0 d).drewN k)=.ok (.string ⟨(Lib.decDigits u).toArray⟩) ((putRow (λ(b:UInt8)=>Value.int .u8 (b.toNat:Int)) (w.alloc (.cells Lib.zeros24 373)) w 0 d).drewN k):=by
   have h:=run_convert_bytes_back (P:=prog) ((putRow (λ(b:UInt8)=>Value.int .u8 (b.toNat:Int)) (w.alloc (.cells Lib.zeros24 373)) w 0 d).drewN k) 243 9 5 w 24 (Lib.decDigits u) underlying243 underlying5 underlying9 (λj f=>by
    rw [Lib.row_is_numeral g j f,Lib.add_plain,World.cell?_drewN];exact cell?_putRow (λ(b:UInt8)=>Value.int .u8 (b.toNat:Int)) _ w 0 _ d Hh.o (by rw [g.size,Array.size_replicate]) j (by rw [g.size];rw [Lib.decDigits_length] at f;exact f))
   rw [Lib.decDigits_length] at h;exact h
  go_wp2
  go_ret;obtain ⟨os,i⟩:=M0 w (.cells Lib.zeros24 373) d k;exact ⟨rfl,by rw [i];exact BX _ w (lR) k os⟩
theorem M2 (u:Nat) (w:World) (b:u<18446744073709551616) (a:jR w) :
  Calls prog 182 #[.int .u64 u,(10:Int)] w λe w'=>e=.returned (.string ⟨(Lib.decDigits u).toArray⟩)/\Below w w w':=by
 have d:=qI a;clear a
 go_enter func182,ntmps182
 go_wp2_with fail
 refine (M1 u w b d.o).mono ?_;rintro e f ⟨rfl,c⟩
 go_wp2
 go_ret;exact ⟨rfl,c⟩
theorem oX (a b:List UInt8):(ByteArray.mk a.toArray)++(ByteArray.mk b.toArray)=ByteArray.mk (a++b).toArray:=by
 apply ByteArray.ext;simp
theorem BZ (b:List UInt8) (w:World) (i:b.length<=1000000) (a:jR w) :
  Calls prog 142 #[.string ⟨b.toArray⟩] w λe w'=>e=.returned (.string ⟨(di b).toArray⟩)/\Below w w w':=by
 have f:=qI a;clear a;have HS:=qI (Gh ⟨b.toArray⟩ w (by unfold maxLen;simp [ByteArray.size];omega));have Hb:eL b<4294967296:=uq b;have hle:=vK (eL b) (by omega);have d:Hu (di b=[115,117,109,32]++Lib.decDigits (eL b)++[10]):=rfl;have g:(ByteArray.mk b.toArray).data.toList=b:=by simp
 rw [g] at HS;generalize eL b=H at *;generalize di b=S at *;have j:=oX [115,117,109,32] (Lib.decDigits H);have c:=oX ([115,117,109,32]++Lib.decDigits H) [10]
 go_enter func142,ntmps142
 go_wp2_with fail
 refine HS.o.mono ?_;rintro e h ⟨rfl,rfl⟩
 go_wp2_with fail
 refine (M2 H _ (by omega) f.o).mono ?_;rintro e h ⟨rfl,Ha⟩
 go_wp2
 go_ret;exact ⟨by rw [d.o];exact congrArg (λx=>Ending.returned (Value.string x)) c,Ha⟩
theorem wD (l:List UInt8) (w:World):Calls prog 179 #[.string ⟨l.toArray⟩] w λe w'=>e=.returned (.string ⟨(ei l).toArray⟩)/\w'=w:=by
 have b:((ByteArray.mk l.toArray).toList.isEmpty)=l.isEmpty:=by rw [Qs]
 by_cases h:l=[]
 ·subst h
  go_enter func179,ntmps179
  go_wp2
  go_ret;exact ⟨rfl,rfl⟩
 ·have c:l.isEmpty=false:=by simpa using h
  rw [c] at b;have a:Hu (ei l=l):=by unfold Hu ei;rw [if_neg h]
  rw [a.o]
  go_enter func179,ntmps179
  go_wp2
  go_ret;exact ⟨rfl,rfl⟩
end
def kz (w:World) (g:Nat) (wr:Bool) (bs:ByteArray):Prop:=g<w.heap.size/\w.cell? g=some (.bool wr)/\w.cell? ⟨g,1,none⟩=some (.string bs)
theorem kz.block {g:Nat} (h:kz w g wr bs) (b:w'.heap[g]?=w.heap[g]?):kz w' g wr bs:=by
 obtain ⟨d,f,e⟩:=h;have Ha:g<w':=by
  obtain ⟨c,_⟩:=gS (b.trans (Array.getElem?_eq_getElem d));exact c
 exact ⟨Ha,(World.cell?_of_block (a:=g) b).trans f,(World.cell?_of_block (a:=⟨g,1,none⟩) b).trans e⟩
theorem fy (p:a.grownBy b (some B)) (q:b.grownBy c (some B)):a.grownBy c (some B):=
 ⟨q.os.trans p.os,q.tape.trans p.tape,q.output.trans p.output,Q5 p.size q.size,λj e d=>(q.block j (Q1 e p.size) d).trans (p.block j e d)⟩
theorem M3 (p:a.grownBy b (some B)) (q:Below b b c):a.grownBy c (some B):=
 ⟨q.os.trans p.os,q.tape.trans p.tape,q.output.trans p.output,Q5 p.size q.size,λj e d=>(q.block j (Q1 e p.size)).trans (p.block j e d)⟩
theorem M4:(prog.info? 111).map (λi=>(i.zero,i.size,i.bytes))=some (some (.agg #[false,ByteArray.empty]),2,24):=by kernel_rfl
theorem M5 {o:Option TypeInfo} {z:Option Value} {s b:Nat} (h:o.map (λi=>(i.zero,i.size,i.bytes))=some (z,s,b)):∃ i,o=some i/\i.zero=z/\i.size=s/\i.bytes=b:=by simp_all
theorem M6 (w:World) (wr:Bool) (bs:ByteArray) (t:TypeId):∀ j u,[Value.bool wr,Value.string bs][j]?=some u->(w.alloc (.cells #[wr,bs] t)).drew.cell? ((w.heap.size:Addr).add j)=some u:=by simp_all [Addr.add_lit]
theorem M7 {base:Nat} {v:Value} (h:w.ownsRow base 111 2 v (0+1) ([]++[.bool wr,.string bs])):∃ g a,v=.slice (some ⟨g,0,none⟩) 1 a/\(base<=g/\1<=a)/\kz w g wr bs:=by
 rcases h.2 with ⟨_,e⟩|⟨g,a,b,i,f,c,Hc,Ha,Hb,d⟩
 ·cases e
 ·have c0:b[0]?=some (.bool wr):=by
   have:=congrArg (λl=>l[0]?) d
   simpa using this
  have c1:b[1]?=some (.string bs):=by
   have:=congrArg (λl=>l[1]?) d
   simpa using this
  exact ⟨g,a,i,⟨f,by omega⟩,(gS c).1,by simp [World.cell?,c,c0],by simp [World.cell?,c,c1]⟩
theorem M8 (h:Below w.drew w.drew w'):Below w w w':=⟨h.os,h.tape,h.output,h.size,h.block⟩
theorem M9 {W:World} {p q:Nat} {s:Sd} {z0 z1 z2 z3:Value} {a:Act} {d:TypeId} {pos:String} {after:Array Edge} {guard:Option (Nat × Bool)} {K:Act->World->Prop} {Q:Exit->Act->World->Prop}
  (c0:W.cell? B=some z0) (c1:W.cell? ⟨B,1,none⟩=some z1) (c2:W.cell? ⟨B,2,none⟩=some z2) (c3:W.cell? ⟨B,3,none⟩=some z3) (f0:W.frozen? B=false) (f1:W.frozen? ⟨B,1,none⟩=false) (f2:W.frozen? ⟨B,2,none⟩=false) (f3:W.frozen? ⟨B,3,none⟩=false)
  (f:a.tmps[p]?.getD undef=.pointer (some ⟨B,0,none⟩)) (e:a.tmps[q]?.getD undef=s.agg) (b:K a (putS W B 0 s)) :
  Oper.wp prog { dst:=none,op:=Op.store 93 (Operand.tmp p) (Operand.tmp q),type:=d,pos:=pos,after:=after,guard:=guard } a W K Q:=by
 unfold putS at b;unfold Sd.agg at e;have c:=qI b;clear b;go_simp;exact c.o
def sY (w w':World) (B:Nat) (n k:Sd) (l:Int) (wr:Bool) (bs:ByteArray):Prop:=∃ g cap,aQ w' B n k (.slice (some ⟨g,0,none⟩) 1 cap) l false/\(w.heap.size<=g/\1<=cap)/\kz w' g wr bs
theorem B0 (B:Nat) (n k:Sd) (l:Int) (d:Bool) (wr:Bool) (bs:ByteArray) (w:World) (h:aQ w B n k (.slice none 0 0) l d) (hl:-9223372036854775808<=l/\l<=9223372036854775807) (h0:cf l d=0) :
  Calls prog 143 #[B,.agg #[wr,bs]] w λe w'=>e=.returned .nilIface/\sY w w' B (Chg.on ⟨wr,bs⟩ n) k (bu l d) wr bs/\w.grownBy w' (some B):=by
 have HL:=h.lt;have Hv:=(Q0 w w).alloc (lR) (.cells #[wr,bs] 111);have HG:kz (w.alloc (.cells #[wr,bs] 111)) w wr bs:=⟨by simp,by simp,by simp⟩;have HJ:=h.block (w':=w.alloc (.cells #[wr,bs] 111)) (Hv.block B HL);have Ht:=qI (qt B n k _ l d _ HJ hl);have hF:fM l d=false:=by
  rcases qv l d with ⟨e1,_⟩|⟨_,e2⟩
  ·rw [h0] at e1;cases e1
  ·exact e2
 rw [h0,hF,v6] at Ht;have Hg:=qI (Gi ⟨wr,bs⟩ n);obtain ⟨n',HA⟩:∃ n',n'=Chg.on ⟨wr,bs⟩ n:=⟨_,rfl⟩;rw [<- HA] at Hg ⊢;unfold Chg.agg at Hg;rw [show n.agg=.agg #[n.ft,n.fb,n.dt,n.db] from rfl] at Hg;dsimp only at Hg;have Hp:w≠B:=by omega
 have Hf:=qI Hv;have HF:=qI HG;clear h HJ HA hF h0 Hv HG
 go_enter func143,ntmps143
 go_wp2_with fail
 refine Ht.o.mono ?_;rintro e w1 ⟨rfl,h1,Hs⟩;have He:kz w1 w wr bs:=HF.o.block (Hs.1.block w (by simp) λe=>Hp (Ql e));have Hz:=qI He;have Hq:=He.1;have HM:=h1.lt;have HH:=qI (fy ⟨Hf.o.os,Hf.o.tape,Hf.o.output,Hf.o.size,λj hj _=>Hf.o.block j hj⟩ Hs.1);obtain ⟨a0,a1,a2,a3⟩:=h1.now;obtain ⟨_,x0,x1⟩:=He;have H1:=qI h1;clear h1 Hs Ht Hf HF
 as_aux_lemma=>
 go_wp2_with fail
 refine wp_region_held_drew (S:=λ_=>True) (by kernel_rfl) trivial λhQ=>?_;refine tk 0 ?_;refine tk 2 ?_;refine tk 3 ?_;refine tk 4 ?_;refine rd2 1 5 (λK hK=>?_) λK hK=>?_
 rotate_left
 have HS:=trivial
 rotate_left
 all_goals
  go_simp;refine hK.o _ _ trivial λhQ=>?_;clear hK K;(try simp only [Act.put,s1,s2,s3])
  first|(have:=HS;refine rd 1 λK hK=>?_)|refine rd 5 λK hK=>?_
  go_simp;refine hK.o _ _ trivial λhQ=>?_;clear hK K;(try simp only [Act.put,s1,s2,s3]);refine rd 6 λK hK=>?_;go_simp
  go_wp2_with fail
  refine (Hg.o _).mono ?_;rintro e w5 ⟨rfl,Hi⟩;have Hc:=H1.o.block (w':=w5) (Hi.block B HM);have Hx:=qI (show kz w5 w wr bs from Hz.o.block (Hi.block w Hq));have Hu:=qI Hi.size;have HI:=qI (M3 HH.o (M8 Hi))
  go_wp2_with fail
  refine hK.o _ _ trivial λhQ=>?_;clear hK K;refine tk 7 ?_;refine tk 8 ?_;obtain ⟨s0,s1,s2,s3⟩:=Hc.now;have Hr:=qI (Hc.setNow n');have Hh:=qI (show kz (putS w5 B 0 n') w wr bs from Hx.o.block ((eH.refl B w5).putS 0 n' |>.1.block w (by have:=Hu.o;have:=Hq;simp at *;omega) λe=>Hp (Ql e)));have HQ:=qI (show w.grownBy (putS w5 B 0 n') (some B) from fy HI.o ((eH.refl B w5).putS 0 n').1);have HP:=qI (show w.heap.size+1<=(putS w5 B 0 n').heap.size from by rw [((eH.refl B w5).putS 0 n').2];have:=Hu.o;have:=Hq;simp at *;omega);refine rd 9 λK hK=>?_;rw [if_pos (by rfl)];refine M9 s0 s1 s2 s3 (Hc.frozen 0) (Hc.frozen 1) (Hc.frozen 2) (Hc.frozen 3) rfl rfl ?_;refine hK.o _ _ trivial λhQ=>?_;clear hK K Hc Hx HI s0 s1 s2 s3 H1 Hz HH Hi Hu Hg;generalize putS w5 B 0 n'=w6 at *;refine Qn (by kernel_rfl) ?_ _
  as_aux_lemma=>
  obtain ⟨i0,hi,HO,HK,HW⟩:=M5 M4;obtain ⟨x8,_,_⟩:=Hr.o.rest;have HB:=qI Hr.o.lt;have Hj:=(Q0 w6 w6).alloc (lR) (.cells #[wr,bs] 111);have x8':=(Hj.cell (p:=⟨B,8,none⟩) HB.o).trans x8;have Hy:=qI (Hh.o.block (Hj.block w Hh.o.1));have Hw:=qI (show ∀ j,j<w6.heap.size->(w6.alloc (.cells #[wr,bs] 111)).drew.heap[j]?=w6.heap[j]? from λj hj=>Hj.block j hj);have HC:=qI (show ∀ j u,[Value.bool wr,Value.string bs][j]?=some u->(w6.alloc (.cells #[wr,bs] 111)).drew.cell? ((w6.heap.size:Addr).add j)=some u from M6 w6 wr bs _);have HD:=qI (show w.heap.size<=(w6.alloc (.cells #[wr,bs] 111)).drew.heap.size from by have:=HP.o;simp [World.drew];omega);clear Hj a0 a1 a2 a3 x0 x1
  go_wp2_with fail
  refine wp_region_held_drew (S:=λw'=>cl w' w (0) wr/\cl w' w (1) bs) (by kernel_rfl) Hh.o.2 λhQ=>?_;refine tk 0 ?_;refine tk 1 ?_;refine tk 2 ?_;refine tk 3 ?_;refine tk 5 ?_;refine rd2 4 6 (λK hK=>?_) λK hK=>?_
  rotate_left
  have HX:=trivial
  rotate_left
  all_goals
   go_simp;refine hK.o _ _ (by first|exact Hh.o.2|exact Hy.o.2) λhQ=>?_;clear hK K;(try simp only [Act.put,s1,s2,s3])
   first|(have:=HX;refine rd 4 λK hK=>?_)|refine rd 6 λK hK=>?_
   go_simp;refine hK.o _ _ Hy.o.2 λhQ=>?_;clear hK K;(try simp only [Act.put,s1,s2,s3]);refine rd 7 λK hK=>?_;rw [if_pos (by rfl)]
   refine wp_append_own (o := { dst := some 27, op := Op.call { callee := Callee.builtin Builtin.append, args := #[Operand.tmp 24, Operand.tmp 26], argTypes := #[94, 94] }, type := 94, pos := "disk.go:122", after := #[{ on := 4, ground := Ground.data }, { on := 6, ground := Ground.data }], guard := none }) _ _ _ 94 rfl w.heap.size 111 i0 (.agg #[.bool false, .string ByteArray.empty]) 2 24 underlying94 hi HO HK HW rfl (by decide) (.slice none 0 0) 0 [] rfl (Qw _ _ _ _) ⟨w6.heap.size, 0, none⟩ 1 1 [.bool wr, .string bs] rfl rfl HC.o (by intro u hu; simp at hu; rcases hu with rfl | rfl <;> rfl) (by unfold maxLen; omega) (by omega) HD.o ?_
   intro v8 w8 Hb Ha _;obtain ⟨g8,cap8,rfl,HR,Ho⟩:=M7 Hb;have Hn:∀ j,j<w6.heap.size->w8.heap[j]?=w6.heap[j]?:=λj hj=>(Ha.block j (by simp [World.drew];omega) (by simp [Value.ownBlock])).trans (Hw.o j hj)
   have Hl:=Hr.o.block (w':=w8) (Hn B HB.o);have Hm:=Hh.o.block (w':=w8) (Hn w Hh.o.1);have HE:=qI (show w.grownBy w8 (some B) from fy HQ.o ⟨Ha.os,Ha.tape,Ha.output,Q5 (by simp [World.drew]) Ha.size,λj hj _=>Hn j hj⟩);clear Hn Hb Ha HC HD Hw;refine hK.o _ _ Hm.2 λhQ=>?_;clear hK K;refine tk 8 ?_;refine tk 9 ?_;obtain ⟨q8,_,_⟩:=Hl.rest;have r8:=Hl.frozen 8;have HV:=qI (Hl.set8 (.slice g8 1 cap8));have Hk:=qI ((eH.refl B w8).set 8 (.slice g8 1 cap8));have HU:=qI (Ho.block (Hk.o.1.block g8 Ho.1 (λe=>by have:=Ql e;omega)));have HT:=qI (Hm.block (Hk.o.1.block w Hm.1 λe=>Hp (Ql e)));have HN:=qI (fy HE.o Hk.o.1);clear Hl Hm Ho HE Hk;refine rd 10 λK hK=>?_;go_simp;refine hK.o _ _ HT.o.2 λhQ=>?_;clear hK K;(try simp only [Act.put,s1,s2,s3]);refine Qn (by kernel_rfl) ?_ _
   go_wp2
   go_ret;exact ⟨rfl,⟨g8,cap8,HV.o,HR,HU.o⟩,HN.o⟩
def sZ (P:Prop) (w:World) (e:Ending) (w':World):Prop:=∃ b:Bool,e=.returned b/\(P->b=true)/\Below w w w'
theorem nM (w:World) (n:Nat):Below w w (w.drewN n):=⟨rfl,rfl,rfl,lR,λ_ _=>rfl⟩
def wE (w:World) (ao:Option Addr) (xs:List Int):Prop:=0<xs.length->∃ b o,ao=some ⟨b,o,none⟩/\b<w.heap.size/\∀ k,k<xs.length->w.cell? ⟨b,o+k,none⟩=some (.int .i64 (xs.getD k 0))
theorem B4 (j a2:Option Addr) (c1 c2:Nat) (a d:List Int) (w:World) (m1:a.length<=maxLen) (_m2:d.length<=maxLen) (o:wE w j a) (l:wE w a2 d) :
  Calls prog 48 #[.slice j a.length c1,.slice a2 d.length c2] w λe w'=>∃ b:Bool,e=.returned b/\(a=d->b=true)/\∃ n,w'=w.drewN n:=by
 unfold maxLen at m1;have t:=qI o;have r:=qI l;clear o l
 by_cases f:a.length=d.length
 ·rw [<- f];have p:=qI f
  go_enter func48,ntmps48
  clear f
  go_wp2
  go_loopw [5] (λi wr=>∃ k m:Nat,k<=a.length/\i=.int .i64 k/\wr=w.drewN m) (λi _=>a.length - (intOf i).toNat)
  case atStart=>exact ⟨0,0,by omega,rfl,rfl⟩
  case round=>
   obtain ⟨k,m,B,rfl,rfl⟩:=hrel
   by_cases g:k<a.length
   ·obtain ⟨b1,z,rfl,_,Ha⟩:=t.o (by omega);obtain ⟨b2,u,rfl,_,Hb⟩:=r.o (by rw [<- p.o];omega);have A:=Ha k g;have v:=Hb k (by rw [<- p.o];omega);clear Ha Hb;have q:Hu (a=d->a.getD k 0=d.getD k 0):=λe=>by rw [e]
    generalize a.getD k 0=x at *;generalize d.getD k 0=y at *
    by_cases c:x=y
    ·subst c
     go_wp2
     go_quiet (fail)
     go_wp2
     go_roundw
     case rel=>exact ⟨k+1,_,by omega,by go_num,rfl⟩
     case measure=>simp [intOf];omega
    ·have s:(x == y)=false:=by simpa using c
     have h:=qI c;clear c
     go_wp2
     go_quiet (fail)
     go_wp2
     go_ret;exact ⟨_,rfl,λe=>absurd (q.o e) h.o,_,World.drewN_drewN _ _ _⟩
   ·have Hc:k=a.length:=by omega
    subst Hc
    go_wp2
    go_ret;exact ⟨_,rfl,λ_=>rfl,m,rfl⟩
 ·have s:((a.length:Int) == (d.length:Int))=false:=by simp;omega
  have h:=qI f;clear f
  go_enter func48,ntmps48
  go_wp2
  go_ret;exact ⟨_,rfl,λe=>absurd (congrArg List.length e) h.o,0,rfl⟩
theorem Na (g v2:Value) (c f:List Int) (w:World) (d:bA w g c) (a:bA w v2 f) :
  Calls prog 48 #[g,v2] w λe w'=>∃ b:Bool,e=.returned b/\(c=f->b=true)/\∃ n,w'=w.drewN n:=by
 obtain ⟨h,c1,rfl,m1,d⟩:=d;obtain ⟨a2,c2,rfl,m2,a⟩:=a;exact B4 h a2 c1 c2 c f w (Q5 m1.1 m1.2) (Q5 m2.1 m2.2) d a
theorem B5 (B:Nat) (n k:Sd) (v:Value) (l:Int) (d:Bool) (wr:Bool) (bs:ByteArray) (w:World) (h:aQ w B n k v l d) (i:-9223372036854775808<=l/\l<=9223372036854775807) (a:cf l d=11) :
  Calls prog 143 #[B,.agg #[wr,bs]] w λe w'=>e=.returned (.iface 108 (11:Int))/\aQ w' B n k v (bu l d) true/\w.grownBy w' (some B):=by
 have Hf:=h.lt;have Hb:=(Q0 w w).alloc (lR) (.cells #[wr,bs] 111);have Hg:=h.block (w':=w.alloc (.cells #[wr,bs] 111)) (Hb.block B Hf);have Hc:=qI (qt B n k _ l d _ Hg i);have b:fM l d=true:=by
  rcases qv l d with ⟨_,m⟩|⟨f,_⟩
  ·exact m
  ·rw [a] at f;cases f
 rw [a,b,vZ] at Hc;have Ha:=qI Hb;clear h Hg b a Hb Hf
 go_enter func143,ntmps143
 go_wp2_with fail
 refine Hc.o.mono ?_;rintro e p ⟨rfl,c,He⟩;have Hh:=qI (fy ⟨Ha.o.os,Ha.o.tape,Ha.o.output,Ha.o.size,λj g _=>Ha.o.block j g⟩ He.1);have o:=qI c;clear c He Hc Ha
 go_wp2
 go_ret;exact ⟨rfl,o.o,Hh.o⟩
theorem Nb (B:Nat) (s:ByteArray) (w:World) (hs:6000<s.size) (a:s.size<=maxLen) :
  Calls prog 97 #[B,s] w λe w'=>e=.returned (.iface 108 (2:Int))/\w'=w:=by
 unfold maxLen at a
 go_enter func97,ntmps97
 go_wp2
 go_ret;exact ⟨rfl,rfl⟩
theorem Nc (B:Nat) (n k:Sd) (l:Int) (d:Bool) (s:ByteArray) (w:World) (h:aQ w B n k (.slice none 0 0) l d) (i:-9223372036854775808<=l/\l<=9223372036854775807) (a:cf l d=0) (hs:s.size<=6000) :
  Calls prog 97 #[B,s] w λe w'=>e=.returned .nilIface/\sY w w' B (Chg.on ⟨true,s⟩ n) k (bu l d) true s/\w.grownBy w' (some B):=by
 have c:=qI (B0 B n k l d true s w h i a);clear h a
 go_enter func97,ntmps97
 go_wp2_with fail
 refine c.o.mono ?_;rintro e m ⟨rfl,f,b⟩;have j:=qI f;have g:=qI b;clear f b c
 go_wp2
 go_ret;exact ⟨rfl,j.o,g.o⟩
theorem Nd (B:Nat) (n k:Sd) (v:Value) (l:Int) (d:Bool) (s:ByteArray) (w:World) (h:aQ w B n k v l d) (i:-9223372036854775808<=l/\l<=9223372036854775807) (a:cf l d=11) (hs:s.size<=6000) :
  Calls prog 97 #[B,s] w λe w'=>e=.returned (.iface 108 (11:Int))/\aQ w' B n k v (bu l d) true/\w.grownBy w' (some B):=by
 have c:=qI (B5 B n k v l d true s w h i a);clear h a
 go_enter func97,ntmps97
 go_wp2_with fail
 refine c.o.mono ?_;rintro e m ⟨rfl,f,b⟩;have j:=qI f;have g:=qI b;clear f b c
 go_wp2
 go_ret;exact ⟨rfl,j.o,g.o⟩
theorem Nf (B:Nat) (n k:Sd) (l:Int) (d:Bool) (w:World) (h:aQ w B n k (.slice none 0 0) l d) (j:-9223372036854775808<=l/\l<=9223372036854775807) (a:cf l d=0) (f:n.dt=true) :
  Calls prog 98 #[B] w λe w'=>e=.returned .nilIface/\sY w w' B (Chg.on ⟨false,⟨#[]⟩⟩ n) k (bu l d) false ⟨#[]⟩/\w.grownBy w' (some B):=by
 have c:=qI (B0 B n k l d false ⟨#[]⟩ w h j a);obtain ⟨_,_,c2,_⟩:=h.now;rw [f] at c2;clear h a f
 go_enter func98,ntmps98
 go_wp2_with fail
 refine c.o.mono ?_;rintro e o ⟨rfl,g,b⟩;have m:=qI g;have i:=qI b;clear g b c
 go_wp2
 go_ret;exact ⟨rfl,m.o,i.o⟩
theorem Ng (B:Nat) (n k:Sd) (v:Value) (l:Int) (d:Bool) (w:World) (h:aQ w B n k v l d) (j:-9223372036854775808<=l/\l<=9223372036854775807) (a:cf l d=11) (f:n.dt=true) :
  Calls prog 98 #[B] w λe w'=>e=.returned (.iface 108 (11:Int))/\aQ w' B n k v (bu l d) true/\w.grownBy w' (some B):=by
 have c:=qI (B5 B n k v l d false ⟨#[]⟩ w h j a);obtain ⟨_,_,c2,_⟩:=h.now;rw [f] at c2;clear h a f
 go_enter func98,ntmps98
 go_wp2_with fail
 refine c.o.mono ?_;rintro e o ⟨rfl,g,b⟩;have m:=qI g;have i:=qI b;clear g b c
 go_wp2
 go_ret;exact ⟨rfl,m.o,i.o⟩
theorem B6 (w:World) (m n:Nat):Below w w ((w.drewN m).drewN n):=⟨rfl,rfl,rfl,lR,λ_ _=>rfl⟩
theorem bO.parts {v:Value} {ds:List ai} (h:bO w v ds):∃ a c,v=.slice a ds.length c/\ds.length<=maxLen/\∀ k,k<ds.length->∃ b o,a=some ⟨b,o,none⟩/\b<w.heap.size/\w.cell? ⟨b,o+k*2,none⟩=some (.string (ak ds k).kind)/\w.cell? ⟨b,o+k*2+1,none⟩=some (.int .i64 (ak ds k).many):=by
 obtain ⟨a,c,rfl,g,i⟩:=h;refine ⟨a,c,rfl,g,λk d=>?_⟩;obtain ⟨b,o,f,Ha,e⟩:=i (by omega);exact ⟨b,o,f,Ha,(e k d).1,(e k d).2⟩
abbrev lu:=λ(x0:ByteArray) (x1 x2 x3 x4:Int) (x5:Option Addr) (x6 x7:Nat)=>(.cells #[x0,x1,x2,x3,x4,.slice x5 x6 x7] 65:Obj)
abbrev iq:=λ(x0:ByteArray) (x1:Int) (x2:Option Addr) (x3 x4:Nat)=>(.cells #[x0,x1,.slice x2 x3 x4] 49:Obj)
theorem Nh (p q:az) (cv dv:Value) (w:World) (U:aZ w cv p.cs) (X:aZ w dv q.cs) :
  Calls prog 47 #[du p cv,du q dv] w (sZ (p=q) w):=by
 unfold du;obtain ⟨B,c1,rfl,m1,U⟩:=U;obtain ⟨a2,c2,rfl,m2,X⟩:=X;unfold maxLen at m1 m2;have H1:=qI U;have H2:=qI X;clear U X;have k1:Hu (p=q->p.nm=q.nm):=λe=>by rw [e]
 have k2:Hu (p=q->p.pr=q.pr):=λe=>by rw [e]
 have k3:Hu (p=q->p.cs=q.cs):=λe=>by rw [e]
 generalize (p=q)=z at *;obtain ⟨s,t,a⟩:=p;obtain ⟨qn,Y,o⟩:=q;dsimp only at m1 m2 H1 H2 k1 k2 k3 ⊢
 by_cases W:s=qn
 ·subst W
  by_cases e2:t=Y
  ·subst e2;have Hc:=qI (((Q0 w w).alloc (lR) (iq s t B a.length c1)).alloc (by simp) (iq s t a2 o.length c2))
   by_cases M:a.length=o.length
   ·rw [<- M] at Hc ⊢;have T:=qI M;clear M
    go_enter func47,ntmps47
    have p2:((w.alloc (iq s t B a.length c1)).alloc (iq s t a2 a.length c2)).cell? ⟨w,2,none⟩=some (.slice B a.length c1):=by simp
    have q2:((w.alloc (iq s t B a.length c1)).alloc (iq s t a2 a.length c2)).cell? ⟨w.heap.size+1,2,none⟩=some (.slice a2 a.length c2):=by simp
    have Hv:((w.alloc (iq s t B a.length c1)).alloc (iq s t a2 a.length c2)).heap.size=w.heap.size+1+1:=by simp
    go_wp2_with fail
    generalize ((w.alloc (iq s t B a.length c1)).alloc (iq s t a2 a.length c2))=V at *
    go_loopw [5] (λi wr=>∃ k:Nat,k<=a.length/\i=.int .i64 k/\Below V V wr) (λi _=>a.length - (intOf i).toNat)
    case atStart=>exact ⟨0,by omega,rfl,Q0 _ _⟩
    case round=>
     obtain ⟨k,hk,rfl,F⟩:=hrel;have r2:=(F.cell (p:=⟨w,2,none⟩) (by show w<V.heap.size;omega)).trans p2;have s2:=(F.cell (p:=⟨w.heap.size+1,2,none⟩) (by show w+1<V.heap.size;omega)).trans q2;have Ha:=qI (Hc.o.trans (F.mono Hc.o.size));have Hh:=qI F;clear F
     by_cases C:k<a.length
     ·obtain ⟨b1,o1,HG,rfl,Hj⟩:=H1.o (by omega);obtain ⟨b2,H,HN,rfl,Hg⟩:=H2.o (by rw [<- T.o];omega);have Hm:k<o.length:=by rw [<- T.o];exact C
      obtain ⟨x0,x1,x2,x3,x4,x5⟩:=(Hj.below Ha.o).at C;obtain ⟨R,y1,Z,y3,S,E⟩:=(Hg.below Ha.o).at Hm;obtain ⟨G,nc,Ho,K,Hp⟩:=((Hj.below Ha.o).2 k C).2.parts;obtain ⟨O,P,Hq,Q,Hn⟩:=((Hg.below Ha.o).2 k Hm).2.parts;rw [Ho] at x5;rw [Hq] at E;have Hi:=qI (Hg.below Ha.o).1;have Hl:=qI Hp;have Hk:=qI Hn;have D:Hu (z->ae a k=ae o k):=λe=>by rw [k3.o e]
      clear Hj Hg Hp Hn Ho Hq p2 q2;unfold maxLen at K Q;generalize ae a k=c at *;generalize ae o k=d at *;obtain ⟨cn,f,g,n,l,b⟩:=c;obtain ⟨dn,y,v,u,x,r⟩:=d;dsimp only at x0 x1 x2 x3 x4 x5 R y1 Z y3 S E K Q Hl Hk;have j1:Hu (z->cn=dn):=λe=>by have h:=D.o e;injection h with h _
      have j2:Hu (z->f=y):=λe=>by have h:=D.o e;injection h with _ h
      have j3:Hu (z->g=v):=λe=>by have h:=D.o e;injection h with _ _ h
      have j4:Hu (z->n=u):=λe=>by have h:=D.o e;injection h with _ _ _ h
      have j5:Hu (z->l=x):=λe=>by have h:=D.o e;injection h with _ _ _ _ h
      have j6:Hu (z->b=r):=λe=>by have h:=D.o e;injection h
      have He:=qI (((Q0 wr wr).alloc (lR) (lu cn f g n l G b.length nc)).alloc (by simp) (lu dn y v u x O r.length P));clear D;have Hs:w+1<wr.heap.size:=Q1 (by omega) Hh.o.size;have Hb:=Hi.o;have A:=(Q0 wr wr).alloc (lR) (lu cn f g n l G b.length nc);have s2:=(A.cell (p:=⟨w.heap.size+1,2,none⟩) Hs).trans s2;have R:=(A.cell (p:=⟨b2,H+k*6,none⟩) Hb).trans R;have y1:=(A.cell (p:=⟨b2,H+k*6+1,none⟩) Hb).trans y1;have Z:=(A.cell (p:=⟨b2,H+k*6+2,none⟩) Hb).trans Z;have y3:=(A.cell (p:=⟨b2,H+k*6+3,none⟩) Hb).trans y3;have S:=(A.cell (p:=⟨b2,H+k*6+4,none⟩) Hb).trans S;have E:=(A.cell (p:=⟨b2,H+k*6+5,none⟩) Hb).trans E;clear A Hb
      by_cases f0:cn=dn
      ·subst f0
       by_cases f1:f=y
       ·subst f1
        by_cases f2:g=v
        ·subst f2
         by_cases f3:n=u
         ·subst f3
          by_cases f4:l=x
          ·subst f4
           by_cases J:b.length=r.length
           ·rw [<- J] at E He Hk;have F6:=qI J;clear J;have z5:((wr.alloc (lu cn f g n l G b.length nc)).alloc (lu cn f g n l O b.length P)).cell? ⟨wr,5,none⟩=some (.slice G b.length nc):=by simp
            have z6:((wr.alloc (lu cn f g n l G b.length nc)).alloc (lu cn f g n l O b.length P)).cell? ⟨wr.heap.size+1,5,none⟩=some (.slice O b.length P):=by simp
            go_wp2_with fail
            generalize ((wr.alloc (lu cn f g n l G b.length nc)).alloc (lu cn f g n l O b.length P))=W5 at *;clear x0 x1 x2 x3 x4 x5 R y1 Z y3 S E;have Hf:=qI (Hh.o.trans (He.o.mono Hh.o.size))
            go_loopw [8] (λi HA=>∃ j m:Nat,j<=b.length/\i=.int .i64 j/\HA=W5.drewN m) (λi _=>b.length - (intOf i).toNat)
            case atStart=>exact ⟨0,0,by omega,rfl,rfl⟩
            case round=>
             obtain ⟨j,m,hj,rfl,rfl⟩:=hrel
             by_cases L:j<b.length
             ·obtain ⟨u1,v1,rfl,I,t1,t2⟩:=Hl.o j L;obtain ⟨u2,v2,rfl,N,t3,t4⟩:=Hk.o j L;have t1:=(He.o.cell (p:=⟨u1,v1+j*2,none⟩) I).trans t1;have t2:=(He.o.cell (p:=⟨u1,v1+j*2+1,none⟩) I).trans t2;have t3:=(He.o.cell (p:=⟨u2,v2+j*2,none⟩) N).trans t3;have t4:=(He.o.cell (p:=⟨u2,v2+j*2+1,none⟩) N).trans t4;have l1:Hu (z->(ak b j).kind=(ak r j).kind):=λe=>by rw [j6.o e]
              have l2:Hu (z->(ak b j).many=(ak r j).many):=λe=>by rw [j6.o e]
              generalize (ak b j).kind=ki at *;generalize (ak r j).kind=kj at *;generalize (ak b j).many=mi at *;generalize (ak r j).many=mj at *
              by_cases g1:ki=kj
              ·subst g1
               by_cases g2:mi=mj
               ·subst g2
                go_wp2
                go_quiet (fail)
                go_wp2
                go_roundw
                case rel=>exact ⟨j+1,_,by omega,by go_num,rfl⟩
                case measure=>simp [intOf];omega
               ·have G2:=qI g2;have HJ:(mi == mj)=false:=by simpa using g2
                clear g2
                go_wp2
                go_quiet (fail)
                go_wp2
                go_ret;exact ⟨_,rfl,λe=>absurd (l2.o e) G2.o,(Hc.o.trans (Hf.o.mono Hc.o.size)).trans ((B6 _ _ _).mono (Q5 Hc.o.size Hf.o.size))⟩
              ·have G1:=qI g1;have HB:(ki.toList == kj.toList)=false:=by rw [Qr];intro h;exact g1 (ByteArray.ext (by rw [Qs,Qs] at h;exact Array.toList_inj.1 h))
               clear g1
               go_wp2
               go_quiet (fail)
               go_wp2
               go_ret;exact ⟨_,rfl,λe=>absurd (l1.o e) G1.o,(Hc.o.trans (Hf.o.mono Hc.o.size)).trans ((B6 _ _ _).mono (Q5 Hc.o.size Hf.o.size))⟩
             ·have Hr:j=b.length:=by omega
              subst Hr
              go_wp2
              go_roundw
              case rel=>exact ⟨k+1,by omega,by go_num,Hf.o.trans ((nM _ _).mono Hf.o.size)⟩
              case measure=>simp [intOf];omega
           ·have HH:((b.length:Int) == (r.length:Int))=false:=by simp;omega
            have F6:=qI J;clear J
            go_wp2
            go_ret;exact ⟨_,rfl,λe=>absurd (congrArg List.length (j6.o e)) F6.o,Ha.o.trans (He.o.mono Ha.o.size)⟩
          ·have F4:=qI f4;have HF:(l == x)=false:=by simpa using F4.o
           clear f4
           go_wp2
           go_ret;exact ⟨_,rfl,λe=>absurd (j5.o e) F4.o,Ha.o.trans (He.o.mono Ha.o.size)⟩
         ·have F3:=qI f3;have HE:(n == u)=false:=by simpa using F3.o
          clear f3
          go_wp2
          go_ret;exact ⟨_,rfl,λe=>absurd (j4.o e) F3.o,Ha.o.trans (He.o.mono Ha.o.size)⟩
        ·have F2:=qI f2;have HD:(g == v)=false:=by simpa using F2.o
         clear f2
         go_wp2
         go_ret;exact ⟨_,rfl,λe=>absurd (j3.o e) F2.o,Ha.o.trans (He.o.mono Ha.o.size)⟩
       ·have F1:=qI f1;have HM:(f == y)=false:=by simpa using F1.o
        clear f1
        go_wp2
        go_ret;exact ⟨_,rfl,λe=>absurd (j2.o e) F1.o,Ha.o.trans (He.o.mono Ha.o.size)⟩
      ·have F0:=qI f0;have HL:(cn.toList == dn.toList)=false:=by rw [Qr];intro h;exact F0.o (ByteArray.ext (by rw [Qs,Qs] at h;exact Array.toList_inj.1 h))
       clear f0
       go_wp2
       go_ret;exact ⟨_,rfl,λe=>absurd (j1.o e) F0.o,Ha.o.trans (He.o.mono Ha.o.size)⟩
     ·have Ht:k=a.length:=by omega
      subst Ht
      go_wp2
      go_ret;exact ⟨_,rfl,λ_=>rfl,Ha.o⟩
   ·have F:((a.length:Int) == (o.length:Int))=false:=by simp;omega
    go_enter func47,ntmps47
    have T:=qI M;clear M
    go_wp2
    go_ret;exact ⟨_,rfl,λe=>absurd (congrArg List.length (k3.o e)) T.o,Hc.o⟩
  ·have E2:=qI e2;have HC:(t == Y)=false:=by simpa using e2
   clear e2;have Hc:=qI (((Q0 w w).alloc (lR) (iq s t B a.length c1)).alloc (by simp) (iq s Y a2 o.length c2))
   go_enter func47,ntmps47
   go_wp2
   go_ret;exact ⟨_,rfl,λe=>absurd (k2.o e) E2.o,Hc.o⟩
 ·have E1:=qI W;have HI:(s.toList == qn.toList)=false:=by rw [Qr];intro h;exact W (ByteArray.ext (by rw [Qs,Qs] at h;exact Array.toList_inj.1 h))
  clear W;have Hc:=qI (((Q0 w w).alloc (lR) (iq s t B a.length c1)).alloc (by simp) (iq qn Y a2 o.length c2))
  go_enter func47,ntmps47
  go_wp2
  go_ret;exact ⟨_,rfl,λe=>absurd (k1.o e) E1.o,Hc.o⟩
theorem mw.atE {b o:Nat} {hs:List ad} {cv a:Nat->Value} (h:mw w b o hs cv a) {k:Nat} (c:k<hs.length):w.cell? ⟨b,o+k*4,none⟩=some (.string (af hs k).pod.nm)/\w.cell? ⟨b,o+k*4+1,none⟩=some (.int .i64 (af hs k).pod.pr)/\w.cell? ⟨b,o+k*4+2,none⟩=some (cv k)/\w.cell? ⟨b,o+k*4+3,none⟩=some (a k):=(h.2 k c).1
theorem cq.parts {v:Value} {gs:List aP} (h:cq w v gs):∃ a c,v=.slice a gs.length c/\(gs.length<=c/\c<=maxLen)/\∀ k,k<gs.length->∃ b o dv,a=some ⟨b,o,none⟩/\b<w.heap.size/\w.cell? ⟨b,o+k*2,none⟩=some (.int .u64 (aq gs k).cp)/\w.cell? ⟨b,o+k*2+1,none⟩=some dv/\bA w dv (aq gs k).dv:=by
 obtain ⟨a,c,rfl,g,i⟩:=h;refine ⟨a,c,rfl,g,λk d=>?_⟩;obtain ⟨b,o,dv,f,Ha,e⟩:=i (by omega);exact ⟨b,o,dv k,f,Ha,(e k d).1.1,(e k d).1.2.1,(e k d).2⟩
abbrev jn:=λ(x0:Int) (x1:Option Addr) (x2 x3:Nat)=>(.cells #[.int .u64 x0,.slice x1 x2 x3] 123:Obj)
theorem Ni (J v2:Value) (hs gs:List ad) (w:World) (T:aX w J hs) (Q:aX w v2 gs) :
  Calls prog 18 #[J,v2] w (sZ (hs=gs) w):=by
 obtain ⟨a1,c1,rfl,m1,T⟩:=T;obtain ⟨a2,c2,rfl,m2,Q⟩:=Q;unfold maxLen at m1 m2;have H1:=qI T;have H2:=qI Q;clear T Q;have k1:Hu (hs=gs->hs.length=gs.length):=λe=>by rw [e]
 have k2:Hu (∀ k,hs=gs->af hs k=af gs k):=λk e=>by rw [e]
 generalize (hs=gs)=X at *
 by_cases P:hs.length=gs.length
 ·rw [<- P];have W:=qI P;clear P
  go_enter func18,ntmps18
  go_wp2
  go_loopw [5] (λi wr=>∃ k:Nat,k<=hs.length/\i=.int .i64 k/\Below w w wr) (λi _=>hs.length - (intOf i).toNat)
  case atStart=>exact ⟨0,by omega,rfl,Q0 _ _⟩
  case round=>
   obtain ⟨k,hk,rfl,q⟩:=hrel;have Hc:=qI q;clear q
   by_cases u:k<hs.length
   ·obtain ⟨b1,d,A,HV,rfl,Hr⟩:=H1.o (by omega);obtain ⟨b2,c,L,Z,rfl,Hm⟩:=H2.o (by rw [<- W.o];omega);have HI:k<gs.length:=by rw [<- W.o];exact u
    have Hn:=((Hr.below Hc.o).2 k u).2;have Ho:=((Hm.below Hc.o).2 k HI).2;have Hg:=qI (Hr.below Hc.o).1;have Hi:=qI (Hm.below Hc.o).1;have Hb:=qI (show (wr.drew.cell? ⟨b1,d+k*4,none⟩=some (.string (af hs k).pod.nm)/\wr.drew.cell? ⟨b1,d+k*4+1,none⟩=some (.int .i64 (af hs k).pod.pr)/\wr.drew.cell? ⟨b1,d+k*4+2,none⟩=some (A k)/\wr.drew.cell? ⟨b1,d+k*4+3,none⟩=some (HV k))/\(wr.drew.cell? ⟨b2,c+k*4,none⟩=some (.string (af gs k).pod.nm)/\wr.drew.cell? ⟨b2,c+k*4+1,none⟩=some (.int .i64 (af gs k).pod.pr)/\wr.drew.cell? ⟨b2,c+k*4+2,none⟩=some (L k)/\wr.drew.cell? ⟨b2,c+k*4+3,none⟩=some (Z k)) from ⟨(Hr.below Hc.o).atE u,(Hm.below Hc.o).atE HI⟩);have HK:=qI (k2.o k);have HA:Below wr wr wr.drew:=⟨rfl,rfl,rfl,lR,λ_ _=>rfl⟩;have Hj:=qI (Nh (af hs k).pod (af gs k).pod (A k) (L k) wr.drew (Hn.1.below HA) (Ho.1.below HA));unfold du at Hj;obtain ⟨I,M,Hw,_,_⟩:=Hn.1;obtain ⟨G,N,Hx,_,_⟩:=Ho.1;obtain ⟨E,C,HN,H,HO⟩:=Hn.2.parts;obtain ⟨D,B,HJ,v,HH⟩:=Ho.2.parts;have Hv:=qI HO;have Hy:=qI HH;unfold maxLen at H v;clear Hn Ho Hr Hm HO HH H1 H2;rw [Hw,HN,Hx,HJ] at Hb;rw [Hw,Hx] at Hj;clear Hw Hx HN HJ;generalize af hs k=x at *;generalize af gs k=y at *;obtain ⟨⟨xn,xp,xc⟩,n⟩:=x;obtain ⟨⟨yn,yp,yc⟩,r⟩:=y;dsimp only at Hb Hj Hv Hy H v
    go_wp2_with fail
    refine wp_region_held_drew (S:=(λw'=>(w'.cell? ⟨b1,d+k*4,none⟩=some (.string xn)/\w'.cell? ⟨b1,d+k*4+1,none⟩=some (.int .i64 xp)/\w'.cell? ⟨b1,d+k*4+2,none⟩=some (.slice I xc.length M)/\w'.cell? ⟨b1,d+k*4+3,none⟩=some (.slice E n.length C))/\(w'.cell? ⟨b2,c+k*4,none⟩=some (.string yn)/\w'.cell? ⟨b2,c+k*4+1,none⟩=some (.int .i64 yp)/\w'.cell? ⟨b2,c+k*4+2,none⟩=some (.slice G yc.length N)/\w'.cell? ⟨b2,c+k*4+3,none⟩=some (.slice D r.length B)))) (by kernel_rfl) Hb.o λhQ=>?_;refine tk 0 ?_;refine tk 1 ?_;refine tk 2 ?_;refine tk 3 ?_;refine tk 4 ?_;refine tk 5 ?_;refine tk 6 ?_;refine tk 7 ?_;refine tk 8 ?_;refine tk 9 ?_;refine rd 10 λK hK=>?_;go_simp
    go_wp2_with fail
    refine Hj.o.mono ?_;rintro e o ⟨sb,rfl,HB,Ha⟩;have Hf:=qI (Hc.o.trans ((show Below wr wr o from ⟨Ha.os,Ha.tape,Ha.output,Ha.size,Ha.block⟩).mono Hc.o.size));have Hq:=qI (show Below wr wr o from ⟨Ha.os,Ha.tape,Ha.output,Ha.size,Ha.block⟩);have HC:=qI HB;have Hs:=qI (show (o.cell? ⟨b1,d+k*4,none⟩=some (.string xn)/\o.cell? ⟨b1,d+k*4+1,none⟩=some (.int .i64 xp)/\o.cell? ⟨b1,d+k*4+2,none⟩=some (.slice I xc.length M)/\o.cell? ⟨b1,d+k*4+3,none⟩=some (.slice E n.length C))/\(o.cell? ⟨b2,c+k*4,none⟩=some (.string yn)/\o.cell? ⟨b2,c+k*4+1,none⟩=some (.int .i64 yp)/\o.cell? ⟨b2,c+k*4+2,none⟩=some (.slice G yc.length N)/\o.cell? ⟨b2,c+k*4+3,none⟩=some (.slice D r.length B)) from ⟨⟨(Ha.cell (p:=⟨b1,d+k*4,none⟩) Hg.o).trans Hb.o.1.1,(Ha.cell (p:=⟨b1,d+k*4+1,none⟩) Hg.o).trans Hb.o.1.2.1,(Ha.cell (p:=⟨b1,d+k*4+2,none⟩) Hg.o).trans Hb.o.1.2.2.1,(Ha.cell (p:=⟨b1,d+k*4+3,none⟩) Hg.o).trans Hb.o.1.2.2.2⟩,⟨(Ha.cell (p:=⟨b2,c+k*4,none⟩) Hi.o).trans Hb.o.2.1,(Ha.cell (p:=⟨b2,c+k*4+1,none⟩) Hi.o).trans Hb.o.2.2.1,(Ha.cell (p:=⟨b2,c+k*4+2,none⟩) Hi.o).trans Hb.o.2.2.2.1,(Ha.cell (p:=⟨b2,c+k*4+3,none⟩) Hi.o).trans Hb.o.2.2.2.2⟩⟩);clear Ha HB
    go_wp2_with fail
    refine hK.o _ _ Hs.o λhQ=>?_;clear hK K;refine tk 11 ?_;refine Qn (by kernel_rfl) ?_ _;clear hQ Hj Hb;have r3:=Hs.o.1.2.2.2;have s3:=Hs.o.2.2.2.2;have KP:Hu (X->(⟨xn,xp,xc⟩:az)=⟨yn,yp,yc⟩):=λe=>by have h:=HK.o e;injection h
    have KG:Hu (X->n=r):=λe=>by have h:=HK.o e;injection h
    clear HK;cases sb with
    | false=>
     go_wp2
     go_quiet (fail)
     go_wp2
     go_ret;exact ⟨_,rfl,λe=>absurd (HC.o (KP.o e)) (by decide),Hf.o.trans ((nM _ _).mono Hf.o.size)⟩
    | true=>
     clear HC KP
     by_cases O:n.length=r.length
     ·rw [<- O] at s3;have E2:=qI O;clear O v
      go_wp2
      go_quiet (fail)
      go_wp2
      go_loopw [7] (λi wq=>∃ j:Nat,j<=n.length/\i=.int .i64 j/\Below o o wq) (λi _=>n.length - (intOf i).toNat)
      case atStart=>exact ⟨0,by omega,rfl,nM _ _⟩
      case round=>
       obtain ⟨j,hj,rfl,q⟩:=hrel;have HU:=Q1 Hg.o Hq.o.size;have HQ:=Q1 Hi.o Hq.o.size;have r4:=(q.cell (p:=⟨b1,d+k*4+3,none⟩) HU).trans r3;have s4:=(q.cell (p:=⟨b2,c+k*4+3,none⟩) HQ).trans s3;have Ht:=qI (Hf.o.trans (q.mono Hf.o.size));have He:=qI (Hq.o.trans (q.mono Hq.o.size));have Hz:=qI q;clear q
       by_cases F:j<n.length
       ·obtain ⟨u1,J,HX,rfl,HD,x0,x1,HG⟩:=Hv.o j F;obtain ⟨U,v2,H3,rfl,Hp,R,Y,HM⟩:=Hy.o j (by rw [<- E2.o];exact F);have x0:=(He.o.cell (p:=⟨u1,J+j*2,none⟩) HD).trans x0;have x1:=(He.o.cell (p:=⟨u1,J+j*2+1,none⟩) HD).trans x1;have R:=(He.o.cell (p:=⟨U,v2+j*2,none⟩) Hp).trans R;have Y:=(He.o.cell (p:=⟨U,v2+j*2+1,none⟩) Hp).trans Y;have j1:Hu (X->(aq n j).cp=(aq r j).cp):=λe=>by rw [KG.o e]
        have j2:Hu (X->(aq n j).dv=(aq r j).dv):=λe=>by rw [KG.o e]
        have HP:=qI (HG.below He.o);have HE:=qI (HM.below He.o);obtain ⟨f,m,rfl,_,_⟩:=HG;obtain ⟨g,l,rfl,_,_⟩:=HM;generalize (aq n j).cp=a at *;generalize (aq r j).cp=b at *;generalize (aq n j).dv=s at *;generalize (aq r j).dv=t at *;have z:=(Q0 wr wr).alloc (lR) (jn a f s.length m);have s4:=(z.cell (p:=⟨b2,c+k*4+3,none⟩) (Q1 HQ Hz.o.size)).trans s4;have R:=(z.cell (p:=⟨U,v2+j*2,none⟩) (Q1 Hp He.o.size)).trans R;have Y:=(z.cell (p:=⟨U,v2+j*2+1,none⟩) (Q1 Hp He.o.size)).trans Y;have Hk:=qI (z.alloc z.size (jn b g t.length l));have HL:=qI (Na _ _ s t _ (HP.o.below Hk.o) (HE.o.below Hk.o));have Hl:=qI (Ht.o.trans (Hk.o.mono Ht.o.size));have Hh:=qI (Hz.o.trans (Hk.o.mono Hz.o.size));have z0:((wr.alloc (jn a f s.length m)).alloc (jn b g t.length l)).cell? wr=some (.int .u64 a):=by simp
        have z1:((wr.alloc (jn a f s.length m)).alloc (jn b g t.length l)).cell? ⟨wr,1,none⟩=some (.slice f s.length m):=by simp
        have z2:((wr.alloc (jn a f s.length m)).alloc (jn b g t.length l)).cell? (wr.heap.size+1:Nat)=some (.int .u64 b):=by simp
        have z3:((wr.alloc (jn a f s.length m)).alloc (jn b g t.length l)).cell? ⟨wr.heap.size+1,1,none⟩=some (.slice g t.length l):=by simp
        clear z HP HE Hv Hy
        go_wp2_with fail
        generalize ((wr.alloc (jn a f s.length m)).alloc (jn b g t.length l))=W6 at *;refine HL.o.mono ?_;rintro e w7 ⟨db,rfl,HF,n7,rfl⟩;have HR:=qI HF;clear HF HL
        by_cases V:a=b
        ·subst V;cases db with
         | true=>
          go_wp2
          go_roundw
          case rel=>exact ⟨j+1,by omega,by go_num,Hh.o.trans ((nM _ _).mono Hh.o.size)⟩
          case measure=>simp [intOf];omega
         | false=>
          go_wp2
          go_ret;exact ⟨_,rfl,λe=>absurd (HR.o (j2.o e)) (by decide),Hl.o.trans ((nM _ _).mono Hl.o.size)⟩
        ·have H0:((a:Int) == (b:Int))=false:=by simp;omega
         have HW:(a == b)=false:=by simpa using V
         have HY:¬ ((a:Int)=(b:Int)):=by omega
         have E3:=qI V;clear V
         go_wp2
         go_ret;exact ⟨_,rfl,λe=>absurd (j1.o e) E3.o,Hl.o.trans ((nM _ _).mono Hl.o.size)⟩
       ·have HS:j=n.length:=by omega
        subst HS
        go_wp2
        go_roundw
        case rel=>exact ⟨k+1,by omega,by go_num,Ht.o⟩
        case measure=>simp [intOf];omega
     ·have HZ:((n.length:Int) == (r.length:Int))=false:=by simp;omega
      have E2:=qI O;clear O
      go_wp2
      go_quiet (fail)
      go_wp2
      go_ret;exact ⟨_,rfl,λe=>absurd (congrArg List.length (KG.o e)) E2.o,Hf.o.trans ((nM _ _).mono Hf.o.size)⟩
   ·have HT:k=hs.length:=by omega
    subst HT
    go_wp2
    go_ret;exact ⟨_,rfl,λ_=>rfl,Hc.o⟩
 ·have q:((hs.length:Int) == (gs.length:Int))=false:=by simp;omega
  have W:=qI P;clear P
  go_enter func18,ntmps18
  go_wp2
  go_ret;exact ⟨_,rfl,λe=>absurd (k1.o e) W.o,Q0 _ _⟩
