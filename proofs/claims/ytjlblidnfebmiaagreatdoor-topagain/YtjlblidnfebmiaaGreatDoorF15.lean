import Derived.Test.YtjlblidnfebmiaaGreatDoorF14
import Derived.Test.YtjlblidnfebmiaaGreatDoorF12
import Derived.Lib.ItoaMem
set_option maxRecDepth 100000
set_option maxHeartbeats 16000000
open Go Go.RowKit Go.Shelf
attribute [local go_sem] Oper.semAt_some
open Go.Proofs.Tryz
namespace Go.Proofs.YtjlblidnfebmiaaGreatDoor
variable{B:Nat}{a b c w w':World}{bs:ByteArray}{ds:List ap}{v:Value}{wr:Bool}
section
open RowKit Go.Sort
theorem holds_zero0(w:World)(T:TypeId)(n:Nat)(hs:n<=24):Holds (λ(b:UInt8)=>Value.int .u8 (b.toNat:Int)) (w.alloc (.cells Lib.zeros24 T)) w 0 (Array.replicate n (0:UInt8)):=λj a=>by
 have Ha:j<n:=by simpa using a
 refine⟨?_,World.frozen?_alloc_new _ _ _ _⟩;rw[World.cell?_alloc_new,Lib.zeros24_at _ (by omega),getElem!_pos _ j a]
 simp
theorem NP(w:World)(o:Obj)(c:Array UInt8)(k:Nat):∃os,(putRow (λ(b:UInt8)=>Value.int .u8 (b.toNat:Int)) (w.alloc o) w 0 c).drewN k=grow (w.drewN k) os:=by
 rw[alloc_eq_grow];obtain⟨a,_,e⟩:=putRow_grow_new (λ(b:UInt8)=>Value.int .u8 (b.toNat:Int)) w #[o] w 0 c (lR);exact⟨a,by rw[e];rfl⟩
theorem NQ(u:Nat)(w:World)(a:u<18446744073709551616)(c:kf w) :
  Calls prog 232 #[.int .u64 u,(10:Int)] w λe w'=>e=.returned (.string ⟨(Lib.decDigits u).toArray⟩)/\Below w w w':=by
 by_cases hs:u<100
 ·have hd:decide ((u:Int)<100)=true:=Qc (by omega)
  go_enter func232,ntmps232
  go_wp2_with fail
  refine (Tryz.internal_strconv_small u hs _).mono ?_;rintro e w' ⟨rfl,rfl⟩
  go_wp2
  go_ret;exact⟨rfl,Q0 _ _⟩
 ·have He:1<=u:=by omega
  have hd:decide ((u:Int)<100)=false:=Q7 (by omega);have Hc:Lib.nDigits u<=20:=by have:=Lib.numDigits_eq u He a;split at this <;> omega
  have Hi:∀W,(Instr.sliceAt 373 w none (some (.int .i64 (Lib.nDigits u:Int))) none).run prog W=.ok (.slice w (Lib.nDigits u) 24) W:=λW=>by
   have Hg:prog.arrayLen 373=24:=by kernel_rfl
   rw[run_sliceAt_array_h W 373 w (by kernel_rfl) .i64 (Lib.nDigits u:Int) (by omega) (by rw[Hg];omega)];go_simp
  have Hb:=holds_zero0 w 373 (Lib.nDigits u) (by omega);have Ha:=Tryz.internal_strconv_formatBase10 w 0 24 u (Array.replicate (Lib.nDigits u) 0) (w.alloc (.cells Lib.zeros24 373)) Hb (by rw[Array.size_replicate];exact Lib.lt_pow_nDigits u) a (by rw[Array.size_replicate];omega);rw[Array.size_replicate] at Ha;have Hh:=qI Hb;have Hf:=qI Ha;have Hj:=qI (Lib.tabIs_alloc c (.cells Lib.zeros24 373));clear Hb Ha c
  go_enter func232,ntmps232
  go_wp2_with fail
  refine (Tryz.internal_strconv_numDigits u He a _ Hj.o).mono ?_;rintro e w' ⟨rfl,rfl⟩
  go_wp2_with fail
  refine Hf.o.mono ?_;rintro e w' ⟨rfl,k,l,d,rfl,g⟩;have Hk:(convert 243 9 (.slice w (Lib.nDigits u) 24)).run prog ((putRow (λ(b:UInt8)=>Value.int .u8 (b.toNat:Int)) (w.alloc (.cells Lib.zeros24 373)) w 0 d).drewN k)=.ok (.string ⟨(Lib.decDigits u).toArray⟩) ((putRow (λ(b:UInt8)=>Value.int .u8 (b.toNat:Int)) (w.alloc (.cells Lib.zeros24 373)) w 0 d).drewN k):=by
   have h:=run_convert_bytes_back (P:=prog) ((putRow (λ(b:UInt8)=>Value.int .u8 (b.toNat:Int)) (w.alloc (.cells Lib.zeros24 373)) w 0 d).drewN k) 243 9 5 w 24 (Lib.decDigits u) underlying243 underlying5 underlying9 (λj f=>by
    rw[Lib.row_is_numeral g j f,Lib.add_plain,World.cell?_drewN];exact cell?_putRow (λ(b:UInt8)=>Value.int .u8 (b.toNat:Int)) _ w 0 _ d Hh.o (by rw[g.size,Array.size_replicate]) j (by rw[g.size];rw[Lib.decDigits_length] at f;exact f))
   rw[Lib.decDigits_length] at h;exact h
  go_wp2
  go_ret;obtain⟨os,i⟩:=NP w (.cells Lib.zeros24 373) d k;exact⟨rfl,by rw[i];exact Cr _ w (lR) k os⟩
theorem NR(u:Nat)(w:World)(b:u<18446744073709551616)(a:kf w) :
  Calls prog 182 #[.int .u64 u,(10:Int)] w λe w'=>e=.returned (.string ⟨(Lib.decDigits u).toArray⟩)/\Below w w w':=by
 have d:=qI a;clear a
 go_enter func182,ntmps182
 go_wp2_with fail
 refine (NQ u w b d.o).mono ?_;rintro e f ⟨rfl,c⟩
 go_wp2
 go_ret;exact⟨rfl,c⟩
theorem pq(a b:List UInt8):(ByteArray.mk a.toArray)++(ByteArray.mk b.toArray)=ByteArray.mk (a++b).toArray:=by
 apply ByteArray.ext;simp
theorem Ct(b:List UInt8)(w:World)(j:b.length<=1000000)(a:kf w) :
  Calls prog 142 #[.string ⟨b.toArray⟩] w λe w'=>e=.returned (.string ⟨(dB b).toArray⟩)/\Below w w w':=by
 have g:=qI a;clear a;have HS:=qI (GL ⟨b.toArray⟩ w (by unfold maxLen;simp[ByteArray.size];omega));have Hb:eU b<4294967296:=uN b;have hle:=wn (eU b) (by omega);have c:Hu (dB b=[115,117,109,32]++Lib.decDigits (eU b)++[10]):=rfl;have d:(ByteArray.mk b.toArray).data.toList=b:=by simp
 rw[d] at HS;generalize eU b=H at *;generalize dB b=S at *;have i:=pq [115,117,109,32] (Lib.decDigits H);have f:=pq ([115,117,109,32]++Lib.decDigits H) [10]
 go_enter func142,ntmps142
 go_wp2_with fail
 refine HS.o.mono ?_;rintro e h ⟨rfl,rfl⟩
 go_wp2_with fail
 refine (NR H _ (by omega) g.o).mono ?_;rintro e h ⟨rfl,Ha⟩
 go_wp2
 go_ret;exact⟨by rw[c.o];exact congrArg (λx=>Ending.returned (Value.string x)) f,Ha⟩
theorem wY(l:List UInt8)(w:World):Calls prog 179 #[.string ⟨l.toArray⟩] w λe w'=>e=.returned (.string ⟨(eu l).toArray⟩)/\w'=w:=by
 have c:((ByteArray.mk l.toArray).toList.isEmpty)=l.isEmpty:=by rw[Qs]
 by_cases h:l=[]
 ·subst h
  go_enter func179,ntmps179
  go_wp2
  go_ret;exact⟨rfl,rfl⟩
 ·have b:l.isEmpty=false:=by simpa using h
  rw[b] at c;have a:Hu (eu l=l):=by unfold Hu eu;rw[if_neg h]
  rw[a.o]
  go_enter func179,ntmps179
  go_wp2
  go_ret;exact⟨rfl,rfl⟩
end
def kR (w:World) (g:Nat) (wr:Bool) (bs:ByteArray):Prop:=g<w.heap.size/\w.cell? g=some (.bool wr)/\w.cell? ⟨g,1,none⟩=some (.string bs)
theorem kR.block{g:Nat}(h:kR w g wr bs)(b:w'.heap[g]?=w.heap[g]?):kR w' g wr bs:=by
 obtain⟨e,d,f⟩:=h;have Ha:g<w':=by
  obtain⟨c,_⟩:=gS (b.trans (Array.getElem?_eq_getElem e));exact c
 exact⟨Ha,(World.cell?_of_block (a:=g) b).trans d,(World.cell?_of_block (a:=⟨g,1,none⟩) b).trans f⟩
theorem fG(p:a.grownBy b (some B))(q:b.grownBy c (some B)):a.grownBy c (some B):=
 ⟨q.os.trans p.os,q.tape.trans p.tape,q.output.trans p.output,Q5 p.size q.size,λj e d=>(q.block j (Q1 e p.size) d).trans (p.block j e d)⟩
theorem NS(p:a.grownBy b (some B))(q:Below b b c):a.grownBy c (some B):=
 ⟨q.os.trans p.os,q.tape.trans p.tape,q.output.trans p.output,Q5 p.size q.size,λj e d=>(q.block j (Q1 e p.size)).trans (p.block j e d)⟩
theorem NT:(prog.info? 111).map (λi=>(i.zero,i.size,i.bytes))=some (some (.agg #[false,ByteArray.empty]),2,24):=by kernel_rfl
theorem NU{o:Option TypeInfo}{z:Option Value}{s b:Nat}(h:o.map (λi=>(i.zero,i.size,i.bytes))=some (z,s,b)):∃i,o=some i/\i.zero=z/\i.size=s/\i.bytes=b:=by simp_all
theorem NV(w:World)(wr:Bool)(bs:ByteArray)(t:TypeId):∀j u,[Value.bool wr,Value.string bs][j]?=some u->(w.alloc (.cells #[wr,bs] t)).drew.cell? ((w.heap.size:Addr).add j)=some u:=by simp_all[Addr.add_lit]
theorem NW{base:Nat}{v:Value}(h:w.ownsRow base 111 2 v (0+1) ([]++[.bool wr,.string bs])):∃g a,v=.slice (some ⟨g,0,none⟩) 1 a/\(base<=g/\1<=a)/\kR w g wr bs:=by
 rcases h.2 with⟨_,e⟩|⟨g,a,b,i,f,c,Hc,Hb,Ha,d⟩
 ·cases e
 ·have c0:b[0]?=some (.bool wr):=by
   have:=congrArg (λl=>l[0]?) d
   simpa using this
  have c1:b[1]?=some (.string bs):=by
   have:=congrArg (λl=>l[1]?) d
   simpa using this
  exact⟨g,a,i,⟨f,by omega⟩,(gS c).1,by simp[World.cell?,c,c0],by simp[World.cell?,c,c1]⟩
theorem NX(h:Below w.drew w.drew w'):Below w w w':=⟨h.os,h.tape,h.output,h.size,h.block⟩
theorem NY{W:World}{p q:Nat}{s:Sd}{z0 z1 z2 z3:Value}{a:Act}{e:TypeId}{pos:String}{after:Array Edge}{guard:Option (Nat × Bool)}{K:Act->World->Prop}{Q:Exit->Act->World->Prop}
  (c0:W.cell? B=some z0) (c1:W.cell? ⟨B,1,none⟩=some z1) (c2:W.cell? ⟨B,2,none⟩=some z2) (c3:W.cell? ⟨B,3,none⟩=some z3) (f0:W.frozen? B=false) (f1:W.frozen? ⟨B,1,none⟩=false) (f2:W.frozen? ⟨B,2,none⟩=false) (f3:W.frozen? ⟨B,3,none⟩=false)
  (f:a.tmps[p]?.getD undef=.pointer (some ⟨B,0,none⟩)) (c:a.tmps[q]?.getD undef=s.agg) (b:K a (putS W B 0 s)) :
  Oper.wp prog { dst:=none,op:=Op.store 93 (Operand.tmp p) (Operand.tmp q),type:=e,pos:=pos,after:=after,guard:=guard } a W K Q:=by
 unfold putS at b;unfold Sd.agg at c;have d:=qI b;clear b;go_simp;exact d.o
def tL (w w':World) (B:Nat) (n k:Sd) (l:Int) (wr:Bool) (bs:ByteArray):Prop:=∃g cap,aU w' B n k (.slice (some ⟨g,0,none⟩) 1 cap) l false/\(w.heap.size<=g/\1<=cap)/\kR w' g wr bs
theorem Cu(B:Nat)(n k:Sd)(l:Int)(d:Bool)(wr:Bool)(bs:ByteArray)(w:World)(h:aU w B n k (.slice none 0 0) l d)(hl:-9223372036854775808<=l/\l<=9223372036854775807)(h0:cu l d=0) :
  Calls prog 143 #[B,.agg #[wr,bs]] w λe w'=>e=.returned .nilIface/\tL w w' B (Chg.on ⟨wr,bs⟩ n) k (bx l d) wr bs/\w.grownBy w' (some B):=by
 have HV:=h.lt;have Hv:=(Q0 w w).alloc (lR) (.cells #[wr,bs] 111);have Hy:kR (w.alloc (.cells #[wr,bs] 111)) w wr bs:=⟨by simp,by simp,by simp⟩;have Hw:=h.block (w':=w.alloc (.cells #[wr,bs] 111)) (Hv.block B HV);have Hu:=qI (qO B n k _ l d _ Hw hl);have hF:fV l d=false:=by
  rcases qP l d with⟨e1,_⟩|⟨_,e2⟩
  ·rw[h0] at e1;cases e1
  ·exact e2
 rw[h0,hF,wI] at Hu;have Hg:=qI (GM ⟨wr,bs⟩ n);obtain⟨n',HB⟩:∃n',n'=Chg.on ⟨wr,bs⟩ n:=⟨_,rfl⟩;rw[<- HB] at Hg ⊢;unfold Chg.agg at Hg;rw[show n.agg=.agg #[n.ft,n.fb,n.dt,n.db] from rfl] at Hg;dsimp only at Hg;have Hp:w≠B:=by omega
 have Hh:=qI Hv;have HC:=qI Hy;clear h Hw HB hF h0 Hv Hy
 go_enter func143,ntmps143
 go_wp2_with fail
 refine Hu.o.mono ?_;rintro e w1 ⟨rfl,h1,Hr⟩;have Hc:kR w1 w wr bs:=HC.o.block (Hr.1.block w (by simp) λe=>Hp (Ql e));have Hx:=qI Hc;have Hs:=Hc.1;have HK:=h1.lt;have HJ:=qI (fG ⟨Hh.o.os,Hh.o.tape,Hh.o.output,Hh.o.size,λj hj _=>Hh.o.block j hj⟩ Hr.1);obtain⟨a0,a1,a2,a3⟩:=h1.now;obtain⟨_,x0,x1⟩:=Hc;have H1:=qI h1;clear h1 Hr Hu Hh HC
 as_aux_lemma=>
 go_wp2_with fail
 refine wp_region_held_drew (S:=λ_=>True) (by kernel_rfl) trivial λhQ=>?_;refine tk 0 ?_;refine tk 2 ?_;refine tk 3 ?_;refine tk 4 ?_;refine rd2 1 5 (λK hK=>?_) λK hK=>?_
 rotate_left
 have HP:=trivial
 rotate_left
 all_goals
  go_simp;refine hK.o _ _ trivial λhQ=>?_;clear hK K;(try simp only[Act.put,s1,s2,s3])
  first|(have:=HP;refine rd 1 λK hK=>?_)|refine rd 5 λK hK=>?_
  go_simp;refine hK.o _ _ trivial λhQ=>?_;clear hK K;(try simp only[Act.put,s1,s2,s3]);refine rd 6 λK hK=>?_;go_simp
  go_wp2_with fail
  refine (Hg.o _).mono ?_;rintro e w5 ⟨rfl,Hi⟩;have He:=H1.o.block (w':=w5) (Hi.block B HK);have HG:=qI (show kR w5 w wr bs from Hx.o.block (Hi.block w Hs));have Ho:=qI Hi.size;have HA:=qI (NS HJ.o (NX Hi))
  go_wp2_with fail
  refine hK.o _ _ trivial λhQ=>?_;clear hK K;refine tk 7 ?_;refine tk 8 ?_;obtain⟨s0,s1,s2,s3⟩:=He.now;have Hq:=qI (He.setNow n');have Hf:=qI (show kR (putS w5 B 0 n') w wr bs from HG.o.block ((fE.refl B w5).putS 0 n' |>.1.block w (by have:=Ho.o;have:=Hs;simp at *;omega) λe=>Hp (Ql e)));have HM:=qI (show w.grownBy (putS w5 B 0 n') (some B) from fG HA.o ((fE.refl B w5).putS 0 n').1);have HN:=qI (show w.heap.size+1<=(putS w5 B 0 n').heap.size from by rw[((fE.refl B w5).putS 0 n').2];have:=Ho.o;have:=Hs;simp at *;omega);refine rd 9 λK hK=>?_;rw[if_pos (by rfl)];refine NY s0 s1 s2 s3 (He.frozen 0) (He.frozen 1) (He.frozen 2) (He.frozen 3) rfl rfl ?_;refine hK.o _ _ trivial λhQ=>?_;clear hK K He HG HA s0 s1 s2 s3 H1 Hx HJ Hi Ho Hg;generalize putS w5 B 0 n'=w6 at *;refine Qn (by kernel_rfl) ?_ _
  as_aux_lemma=>
  obtain⟨i0,hi,HQ,HW,HS⟩:=NU NT;obtain⟨x8,_,_⟩:=Hq.o.rest;have HF:=qI Hq.o.lt;have Hn:=(Q0 w6 w6).alloc (lR) (.cells #[wr,bs] 111);have x8':=(Hn.cell (p:=⟨B,8,none⟩) HF.o).trans x8;have HD:=qI (Hf.o.block (Hn.block w Hf.o.1));have HE:=qI (show ∀j,j<w6.heap.size->(w6.alloc (.cells #[wr,bs] 111)).drew.heap[j]?=w6.heap[j]? from λj hj=>Hn.block j hj);have HH:=qI (show ∀j u,[Value.bool wr,Value.string bs][j]?=some u->(w6.alloc (.cells #[wr,bs] 111)).drew.cell? ((w6.heap.size:Addr).add j)=some u from NV w6 wr bs _);have HI:=qI (show w.heap.size<=(w6.alloc (.cells #[wr,bs] 111)).drew.heap.size from by have:=HN.o;simp[World.drew];omega);clear Hn a0 a1 a2 a3 x0 x1
  go_wp2_with fail
  refine wp_region_held_drew (S:=λw'=>cl w' w (0) wr/\cl w' w (1) bs) (by kernel_rfl) Hf.o.2 λhQ=>?_;refine tk 0 ?_;refine tk 1 ?_;refine tk 2 ?_;refine tk 3 ?_;refine tk 5 ?_;refine rd2 4 6 (λK hK=>?_) λK hK=>?_
  rotate_left
  have HU:=trivial
  rotate_left
  all_goals
   go_simp;refine hK.o _ _ (by first|exact Hf.o.2|exact HD.o.2) λhQ=>?_;clear hK K;(try simp only[Act.put,s1,s2,s3])
   first|(have:=HU;refine rd 4 λK hK=>?_)|refine rd 6 λK hK=>?_
   go_simp;refine hK.o _ _ HD.o.2 λhQ=>?_;clear hK K;(try simp only[Act.put,s1,s2,s3]);refine rd 7 λK hK=>?_;rw[if_pos (by rfl)]
   refine wp_append_own (o := { dst := some 27, op := Op.call { callee := Callee.builtin Builtin.append, args := #[Operand.tmp 24, Operand.tmp 26], argTypes := #[94, 94] }, type := 94, pos := "disk.go:122", after := #[{ on := 4, ground := Ground.data }, { on := 6, ground := Ground.data }], guard := none }) _ _ _ 94 rfl w.heap.size 111 i0 (.agg #[.bool false, .string ByteArray.empty]) 2 24 underlying94 hi HQ HW HS rfl (by decide) (.slice none 0 0) 0 [] rfl (Qw _ _ _ _) ⟨w6.heap.size, 0, none⟩ 1 1 [.bool wr, .string bs] rfl rfl HH.o (by intro u hu; simp at hu; rcases hu with rfl | rfl <;> rfl) (by unfold maxLen; omega) (by omega) HI.o ?_
   intro v8 w8 Hb Ha _;obtain⟨g8,cap8,rfl,HX,Ht⟩:=NW Hb;have Hl:∀j,j<w6.heap.size->w8.heap[j]?=w6.heap[j]?:=λj hj=>(Ha.block j (by simp[World.drew];omega) (by simp[Value.ownBlock])).trans (HE.o j hj)
   have Hm:=Hq.o.block (w':=w8) (Hl B HF.o);have Hk:=Hf.o.block (w':=w8) (Hl w Hf.o.1);have Hz:=qI (show w.grownBy w8 (some B) from fG HM.o ⟨Ha.os,Ha.tape,Ha.output,Q5 (by simp[World.drew]) Ha.size,λj hj _=>Hl j hj⟩);clear Hl Hb Ha HH HI HE;refine hK.o _ _ Hk.2 λhQ=>?_;clear hK K;refine tk 8 ?_;refine tk 9 ?_;obtain⟨q8,_,_⟩:=Hm.rest;have r8:=Hm.frozen 8;have HO:=qI (Hm.set8 (.slice g8 1 cap8));have Hj:=qI ((fE.refl B w8).set 8 (.slice g8 1 cap8));have HT:=qI (Ht.block (Hj.o.1.block g8 Ht.1 (λe=>by have:=Ql e;omega)));have HR:=qI (Hk.block (Hj.o.1.block w Hk.1 λe=>Hp (Ql e)));have HL:=qI (fG Hz.o Hj.o.1);clear Hm Hk Ht Hz Hj;refine rd 10 λK hK=>?_;go_simp;refine hK.o _ _ HR.o.2 λhQ=>?_;clear hK K;(try simp only[Act.put,s1,s2,s3]);refine Qn (by kernel_rfl) ?_ _
   go_wp2
   go_ret;exact⟨rfl,⟨g8,cap8,HO.o,HX,HT.o⟩,HL.o⟩
def Cv (P:Prop) (w:World) (e:Ending) (w':World):Prop:=∃b:Bool,e=.returned b/\(P->b=true)/\Below w w w'
theorem nZ(w:World)(n:Nat):Below w w (w.drewN n):=⟨rfl,rfl,rfl,lR,λ_ _=>rfl⟩
def Cw (w:World) (ao:Option Addr) (xs:List Int):Prop:=0<xs.length->∃b o,ao=some ⟨b,o,none⟩/\b<w.heap.size/\∀k,k<xs.length->w.cell? ⟨b,o+k,none⟩=some (.int .i64 (xs.getD k 0))
theorem NZ(j a2:Option Addr)(c1 c2:Nat)(a c:List Int)(w:World)(m1:a.length<=maxLen)(_m2:c.length<=maxLen)(l:Cw w j a)(p:Cw w a2 c) :
  Calls prog 48 #[.slice j a.length c1,.slice a2 c.length c2] w λe w'=>∃b:Bool,e=.returned b/\(a=c->b=true)/\∃n,w'=w.drewN n:=by
 unfold maxLen at m1;have s:=qI l;have t:=qI p;clear l p
 by_cases f:a.length=c.length
 ·rw[<- f];have o:=qI f
  go_enter func48,ntmps48
  clear f
  go_wp2
  go_loopw [5] (λi wr=>∃k m:Nat,k<=a.length/\i=.int .i64 k/\wr=w.drewN m) (λi _=>a.length - (intOf i).toNat)
  case atStart=>exact⟨0,0,by omega,rfl,rfl⟩
  case round=>
   obtain⟨k,m,z,rfl,rfl⟩:=hrel
   by_cases g:k<a.length
   ·obtain⟨b1,B,rfl,_,Hb⟩:=s.o (by omega);obtain⟨b2,u,rfl,_,Ha⟩:=t.o (by rw[<- o.o];omega);have v:=Hb k g;have A:=Ha k (by rw[<- o.o];omega);clear Hb Ha;have r:Hu (a=c->a.getD k 0=c.getD k 0):=λe=>by rw[e]
    generalize a.getD k 0=x at *;generalize c.getD k 0=y at *
    by_cases d:x=y
    ·subst d
     go_wp2
     go_quiet (fail)
     go_wp2
     go_roundw
     case rel=>exact⟨k+1,_,by omega,by go_num,rfl⟩
     case measure=>simp[intOf];omega
    ·have q:(x == y)=false:=by simpa using d
     have h:=qI d;clear d
     go_wp2
     go_quiet (fail)
     go_wp2
     go_ret;exact⟨_,rfl,λe=>absurd (r.o e) h.o,_,World.drewN_drewN _ _ _⟩
   ·have Hc:k=a.length:=by omega
    subst Hc
    go_wp2
    go_ret;exact⟨_,rfl,λ_=>rfl,m,rfl⟩
 ·have q:((a.length:Int) == (c.length:Int))=false:=by simp;omega
  have h:=qI f;clear f
  go_enter func48,ntmps48
  go_wp2
  go_ret;exact⟨_,rfl,λe=>absurd (congrArg List.length e) h.o,0,rfl⟩
theorem N0(g v2:Value)(c f:List Int)(w:World)(d:bD w g c)(a:bD w v2 f) :
  Calls prog 48 #[g,v2] w λe w'=>∃b:Bool,e=.returned b/\(c=f->b=true)/\∃n,w'=w.drewN n:=by
 obtain⟨h,c1,rfl,m1,d⟩:=d;obtain⟨a2,c2,rfl,m2,a⟩:=a;exact NZ h a2 c1 c2 c f w (Q5 m1.1 m1.2) (Q5 m2.1 m2.2) d a
theorem Cx(B:Nat)(n k:Sd)(v:Value)(l:Int)(d:Bool)(wr:Bool)(bs:ByteArray)(w:World)(h:aU w B n k v l d)(g:-9223372036854775808<=l/\l<=9223372036854775807)(a:cu l d=11) :
  Calls prog 143 #[B,.agg #[wr,bs]] w λe w'=>e=.returned (.iface 108 (11:Int))/\aU w' B n k v (bx l d) true/\w.grownBy w' (some B):=by
 have Hg:=h.lt;have Hc:=(Q0 w w).alloc (lR) (.cells #[wr,bs] 111);have He:=h.block (w':=w.alloc (.cells #[wr,bs] 111)) (Hc.block B Hg);have Hb:=qI (qO B n k _ l d _ He g);have f:fV l d=true:=by
  rcases qP l d with⟨_,o⟩|⟨b,_⟩
  ·exact o
  ·rw[a] at b;cases b
 rw[a,f,wH] at Hb;have Ha:=qI Hc;clear h He f a Hc Hg
 go_enter func143,ntmps143
 go_wp2_with fail
 refine Hb.o.mono ?_;rintro e p ⟨rfl,c,Hf⟩;have Hh:=qI (fG ⟨Ha.o.os,Ha.o.tape,Ha.o.output,Ha.o.size,λj m _=>Ha.o.block j m⟩ Hf.1);have i:=qI c;clear c Hf Hb Ha
 go_wp2
 go_ret;exact⟨rfl,i.o,Hh.o⟩
theorem N1(B:Nat)(s:ByteArray)(w:World)(hs:6000<s.size)(a:s.size<=maxLen) :
  Calls prog 97 #[B,s] w λe w'=>e=.returned (.iface 108 (2:Int))/\w'=w:=by
 unfold maxLen at a
 go_enter func97,ntmps97
 go_wp2
 go_ret;exact⟨rfl,rfl⟩
theorem N2(B:Nat)(n k:Sd)(l:Int)(d:Bool)(s:ByteArray)(w:World)(h:aU w B n k (.slice none 0 0) l d)(g:-9223372036854775808<=l/\l<=9223372036854775807)(f:cu l d=0)(hs:s.size<=6000) :
  Calls prog 97 #[B,s] w λe w'=>e=.returned .nilIface/\tL w w' B (Chg.on ⟨true,s⟩ n) k (bx l d) true s/\w.grownBy w' (some B):=by
 have b:=qI (Cu B n k l d true s w h g f);clear h f
 go_enter func97,ntmps97
 go_wp2_with fail
 refine b.o.mono ?_;rintro e m ⟨rfl,c,a⟩;have i:=qI c;have j:=qI a;clear c a b
 go_wp2
 go_ret;exact⟨rfl,i.o,j.o⟩
theorem N3(B:Nat)(n k:Sd)(v:Value)(l:Int)(d:Bool)(s:ByteArray)(w:World)(h:aU w B n k v l d)(g:-9223372036854775808<=l/\l<=9223372036854775807)(f:cu l d=11)(hs:s.size<=6000) :
  Calls prog 97 #[B,s] w λe w'=>e=.returned (.iface 108 (11:Int))/\aU w' B n k v (bx l d) true/\w.grownBy w' (some B):=by
 have b:=qI (Cx B n k v l d true s w h g f);clear h f
 go_enter func97,ntmps97
 go_wp2_with fail
 refine b.o.mono ?_;rintro e m ⟨rfl,c,a⟩;have i:=qI c;have j:=qI a;clear c a b
 go_wp2
 go_ret;exact⟨rfl,i.o,j.o⟩
theorem N4(B:Nat)(n k:Sd)(l:Int)(d:Bool)(w:World)(h:aU w B n k (.slice none 0 0) l d)(i:-9223372036854775808<=l/\l<=9223372036854775807)(f:cu l d=0)(g:n.dt=true) :
  Calls prog 98 #[B] w λe w'=>e=.returned .nilIface/\tL w w' B (Chg.on ⟨false,⟨#[]⟩⟩ n) k (bx l d) false ⟨#[]⟩/\w.grownBy w' (some B):=by
 have b:=qI (Cu B n k l d false ⟨#[]⟩ w h i f);obtain⟨_,_,c2,_⟩:=h.now;rw[g] at c2;clear h f g
 go_enter func98,ntmps98
 go_wp2_with fail
 refine b.o.mono ?_;rintro e o ⟨rfl,c,a⟩;have j:=qI c;have m:=qI a;clear c a b
 go_wp2
 go_ret;exact⟨rfl,j.o,m.o⟩
theorem N5(B:Nat)(n k:Sd)(v:Value)(l:Int)(d:Bool)(w:World)(h:aU w B n k v l d)(i:-9223372036854775808<=l/\l<=9223372036854775807)(f:cu l d=11)(g:n.dt=true) :
  Calls prog 98 #[B] w λe w'=>e=.returned (.iface 108 (11:Int))/\aU w' B n k v (bx l d) true/\w.grownBy w' (some B):=by
 have b:=qI (Cx B n k v l d false ⟨#[]⟩ w h i f);obtain⟨_,_,c2,_⟩:=h.now;rw[g] at c2;clear h f g
 go_enter func98,ntmps98
 go_wp2_with fail
 refine b.o.mono ?_;rintro e o ⟨rfl,c,a⟩;have j:=qI c;have m:=qI a;clear c a b
 go_wp2
 go_ret;exact⟨rfl,j.o,m.o⟩
theorem Cy(w:World)(m n:Nat):Below w w ((w.drewN m).drewN n):=⟨rfl,rfl,rfl,lR,λ_ _=>rfl⟩
theorem bv.parts{v:Value}(h:bv w v ds):∃a c,v=.slice a ds.length c/\ds.length<=maxLen/\∀k,k<ds.length->∃b o,a=some ⟨b,o,none⟩/\b<w.heap.size/\w.cell? ⟨b,o+k*2,none⟩=some (.string (aq ds k).kind)/\w.cell? ⟨b,o+k*2+1,none⟩=some (.int .i64 (aq ds k).many):=by
 obtain⟨a,c,rfl,g,i⟩:=h;refine⟨a,c,rfl,g,λk d=>?_⟩;obtain⟨b,o,f,Ha,e⟩:=i (by omega);exact⟨b,o,f,Ha,(e k d).1,(e k d).2⟩
abbrev lF:=λ(x0:ByteArray) (x1 x2 x3 x4:Int) (x5:Option Addr) (x6 x7:Nat)=>(.cells #[x0,x1,x2,x3,x4,.slice x5 x6 x7] 65:Obj)
abbrev iF:=λ(x0:ByteArray) (x1:Int) (x2:Option Addr) (x3 x4:Nat)=>(.cells #[x0,x1,.slice x2 x3 x4] 49:Obj)
theorem N6(p q:aj)(cv dv:Value)(w:World)(S:aQ w cv p.cs)(Y:aQ w dv q.cs) :
  Calls prog 47 #[cz p cv,cz q dv] w (Cv (p=q) w):=by
 unfold cz;obtain⟨A,c1,rfl,m1,S⟩:=S;obtain⟨a2,c2,rfl,m2,Y⟩:=Y;unfold maxLen at m1 m2;have H1:=qI S;have H2:=qI Y;clear S Y;have k1:Hu (p=q->p.nm=q.nm):=λe=>by rw[e]
 have k2:Hu (p=q->p.pr=q.pr):=λe=>by rw[e]
 have k3:Hu (p=q->p.cs=q.cs):=λe=>by rw[e]
 generalize (p=q)=z at *;obtain⟨s,t,b⟩:=p;obtain⟨qn,qp,r⟩:=q;dsimp only at m1 m2 H1 H2 k1 k2 k3 ⊢
 by_cases T:s=qn
 ·subst T
  by_cases Z:t=qp
  ·subst Z;have Hc:=qI (((Q0 w w).alloc (lR) (iF s t A b.length c1)).alloc (by simp) (iF s t a2 r.length c2))
   by_cases I:b.length=r.length
   ·rw[<- I] at Hc ⊢;have E3:=qI I;clear I
    go_enter func47,ntmps47
    have p2:((w.alloc (iF s t A b.length c1)).alloc (iF s t a2 b.length c2)).cell? ⟨w,2,none⟩=some (.slice A b.length c1):=by simp
    have q2:((w.alloc (iF s t A b.length c1)).alloc (iF s t a2 b.length c2)).cell? ⟨w.heap.size+1,2,none⟩=some (.slice a2 b.length c2):=by simp
    have Hv:((w.alloc (iF s t A b.length c1)).alloc (iF s t a2 b.length c2)).heap.size=w.heap.size+1+1:=by simp
    go_wp2_with fail
    generalize ((w.alloc (iF s t A b.length c1)).alloc (iF s t a2 b.length c2))=W0 at *
    go_loopw [5] (λi wr=>∃k:Nat,k<=b.length/\i=.int .i64 k/\Below W0 W0 wr) (λi _=>b.length - (intOf i).toNat)
    case atStart=>exact⟨0,by omega,rfl,Q0 _ _⟩
    case round=>
     obtain⟨k,hk,rfl,F⟩:=hrel;have r2:=(F.cell (p:=⟨w,2,none⟩) (by show w<W0.heap.size;omega)).trans p2;have s2:=(F.cell (p:=⟨w.heap.size+1,2,none⟩) (by show w+1<W0.heap.size;omega)).trans q2;have Ha:=qI (Hc.o.trans (F.mono Hc.o.size));have Hj:=qI F;clear F
     by_cases D:k<b.length
     ·obtain⟨b1,o1,HF,rfl,Hh⟩:=H1.o (by omega);obtain⟨b2,G,HD,rfl,Hg⟩:=H2.o (by rw[<- E3.o];omega);have Hm:k<r.length:=by rw[<- E3.o];exact D
      obtain⟨x0,x1,x2,x3,x4,x5⟩:=(Hh.below Ha.o).at D;obtain⟨V,U,W,y3,X,H⟩:=(Hg.below Ha.o).at Hm;obtain⟨E,nc,Hn,M,Ho⟩:=((Hh.below Ha.o).2 k D).2.parts;obtain⟨N,O,Hp,P,Hq⟩:=((Hg.below Ha.o).2 k Hm).2.parts;rw[Hn] at x5;rw[Hp] at H;have Hk:=qI (Hg.below Ha.o).1;have Hl:=qI Ho;have Hi:=qI Hq;have C:Hu (z->ae b k=ae r k):=λe=>by rw[k3.o e]
      clear Hh Hg Ho Hq Hn Hp p2 q2;unfold maxLen at M P;generalize ae b k=c at *;generalize ae r k=d at *;obtain⟨cn,g,f,l,n,a⟩:=c;obtain⟨dn,x,v,y,u,o⟩:=d;dsimp only at x0 x1 x2 x3 x4 x5 V U W y3 X H M P Hl Hi;have j1:Hu (z->cn=dn):=λe=>by have h:=C.o e;injection h with h _
      have j2:Hu (z->g=x):=λe=>by have h:=C.o e;injection h with _ h
      have j3:Hu (z->f=v):=λe=>by have h:=C.o e;injection h with _ _ h
      have j4:Hu (z->l=y):=λe=>by have h:=C.o e;injection h with _ _ _ h
      have j5:Hu (z->n=u):=λe=>by have h:=C.o e;injection h with _ _ _ _ h
      have j6:Hu (z->a=o):=λe=>by have h:=C.o e;injection h
      have He:=qI (((Q0 wr wr).alloc (lR) (lF cn g f l n E a.length nc)).alloc (by simp) (lF dn x v y u N o.length O));clear C;have Ht:w+1<wr.heap.size:=Q1 (by omega) Hj.o.size;have Hb:=Hk.o;have B:=(Q0 wr wr).alloc (lR) (lF cn g f l n E a.length nc);have s2:=(B.cell (p:=⟨w.heap.size+1,2,none⟩) Ht).trans s2;have V:=(B.cell (p:=⟨b2,G+k*6,none⟩) Hb).trans V;have U:=(B.cell (p:=⟨b2,G+k*6+1,none⟩) Hb).trans U;have W:=(B.cell (p:=⟨b2,G+k*6+2,none⟩) Hb).trans W;have y3:=(B.cell (p:=⟨b2,G+k*6+3,none⟩) Hb).trans y3;have X:=(B.cell (p:=⟨b2,G+k*6+4,none⟩) Hb).trans X;have H:=(B.cell (p:=⟨b2,G+k*6+5,none⟩) Hb).trans H;clear B Hb
      by_cases f0:cn=dn
      ·subst f0
       by_cases f1:g=x
       ·subst f1
        by_cases f2:f=v
        ·subst f2
         by_cases f3:l=y
         ·subst f3
          by_cases f4:n=u
          ·subst f4
           by_cases J:a.length=o.length
           ·rw[<- J] at H He Hi;have F6:=qI J;clear J;have z5:((wr.alloc (lF cn g f l n E a.length nc)).alloc (lF cn g f l n N a.length O)).cell? ⟨wr,5,none⟩=some (.slice E a.length nc):=by simp
            have z6:((wr.alloc (lF cn g f l n E a.length nc)).alloc (lF cn g f l n N a.length O)).cell? ⟨wr.heap.size+1,5,none⟩=some (.slice N a.length O):=by simp
            go_wp2_with fail
            generalize ((wr.alloc (lF cn g f l n E a.length nc)).alloc (lF cn g f l n N a.length O))=W5 at *;clear x0 x1 x2 x3 x4 x5 V U W y3 X H;have Hf:=qI (Hj.o.trans (He.o.mono Hj.o.size))
            go_loopw [8] (λi HA=>∃j m:Nat,j<=a.length/\i=.int .i64 j/\HA=W5.drewN m) (λi _=>a.length - (intOf i).toNat)
            case atStart=>exact⟨0,0,by omega,rfl,rfl⟩
            case round=>
             obtain⟨j,m,hj,rfl,rfl⟩:=hrel
             by_cases Q:j<a.length
             ·obtain⟨u1,v1,rfl,L,t1,t2⟩:=Hl.o j Q;obtain⟨u2,v2,rfl,K,t3,t4⟩:=Hi.o j Q;have t1:=(He.o.cell (p:=⟨u1,v1+j*2,none⟩) L).trans t1;have t2:=(He.o.cell (p:=⟨u1,v1+j*2+1,none⟩) L).trans t2;have t3:=(He.o.cell (p:=⟨u2,v2+j*2,none⟩) K).trans t3;have t4:=(He.o.cell (p:=⟨u2,v2+j*2+1,none⟩) K).trans t4;have l1:Hu (z->(aq a j).kind=(aq o j).kind):=λe=>by rw[j6.o e]
              have l2:Hu (z->(aq a j).many=(aq o j).many):=λe=>by rw[j6.o e]
              generalize (aq a j).kind=ki at *;generalize (aq o j).kind=kj at *;generalize (aq a j).many=mi at *;generalize (aq o j).many=mj at *
              by_cases g1:ki=kj
              ·subst g1
               by_cases R:mi=mj
               ·subst R
                go_wp2
                go_quiet (fail)
                go_wp2
                go_roundw
                case rel=>exact⟨j+1,_,by omega,by go_num,rfl⟩
                case measure=>simp[intOf];omega
               ·have G2:=qI R;have HL:(mi == mj)=false:=by simpa using R
                clear R
                go_wp2
                go_quiet (fail)
                go_wp2
                go_ret;exact⟨_,rfl,λe=>absurd (l2.o e) G2.o,(Hc.o.trans (Hf.o.mono Hc.o.size)).trans ((Cy _ _ _).mono (Q5 Hc.o.size Hf.o.size))⟩
              ·have G1:=qI g1;have HG:(ki.toList == kj.toList)=false:=by rw[Qr];intro h;exact g1 (ByteArray.ext (by rw[Qs,Qs] at h;exact Array.toList_inj.1 h))
               clear g1
               go_wp2
               go_quiet (fail)
               go_wp2
               go_ret;exact⟨_,rfl,λe=>absurd (l1.o e) G1.o,(Hc.o.trans (Hf.o.mono Hc.o.size)).trans ((Cy _ _ _).mono (Q5 Hc.o.size Hf.o.size))⟩
             ·have Hs:j=a.length:=by omega
              subst Hs
              go_wp2
              go_roundw
              case rel=>exact⟨k+1,by omega,by go_num,Hf.o.trans ((nZ _ _).mono Hf.o.size)⟩
              case measure=>simp[intOf];omega
           ·have HJ:((a.length:Int) == (o.length:Int))=false:=by simp;omega
            have F6:=qI J;clear J
            go_wp2
            go_ret;exact⟨_,rfl,λe=>absurd (congrArg List.length (j6.o e)) F6.o,Ha.o.trans (He.o.mono Ha.o.size)⟩
          ·have F4:=qI f4;have HI:(n == u)=false:=by simpa using F4.o
           clear f4
           go_wp2
           go_ret;exact⟨_,rfl,λe=>absurd (j5.o e) F4.o,Ha.o.trans (He.o.mono Ha.o.size)⟩
         ·have F3:=qI f3;have HC:(l == y)=false:=by simpa using F3.o
          clear f3
          go_wp2
          go_ret;exact⟨_,rfl,λe=>absurd (j4.o e) F3.o,Ha.o.trans (He.o.mono Ha.o.size)⟩
        ·have F2:=qI f2;have HE:(f == v)=false:=by simpa using F2.o
         clear f2
         go_wp2
         go_ret;exact⟨_,rfl,λe=>absurd (j3.o e) F2.o,Ha.o.trans (He.o.mono Ha.o.size)⟩
       ·have F1:=qI f1;have HM:(g == x)=false:=by simpa using F1.o
        clear f1
        go_wp2
        go_ret;exact⟨_,rfl,λe=>absurd (j2.o e) F1.o,Ha.o.trans (He.o.mono Ha.o.size)⟩
      ·have F0:=qI f0;have HB:(cn.toList == dn.toList)=false:=by rw[Qr];intro h;exact F0.o (ByteArray.ext (by rw[Qs,Qs] at h;exact Array.toList_inj.1 h))
       clear f0
       go_wp2
       go_ret;exact⟨_,rfl,λe=>absurd (j1.o e) F0.o,Ha.o.trans (He.o.mono Ha.o.size)⟩
     ·have Hr:k=b.length:=by omega
      subst Hr
      go_wp2
      go_ret;exact⟨_,rfl,λ_=>rfl,Ha.o⟩
   ·have F:((b.length:Int) == (r.length:Int))=false:=by simp;omega
    go_enter func47,ntmps47
    have E3:=qI I;clear I
    go_wp2
    go_ret;exact⟨_,rfl,λe=>absurd (congrArg List.length (k3.o e)) E3.o,Hc.o⟩
  ·have E2:=qI Z;have HH:(t == qp)=false:=by simpa using Z
   clear Z;have Hc:=qI (((Q0 w w).alloc (lR) (iF s t A b.length c1)).alloc (by simp) (iF s qp a2 r.length c2))
   go_enter func47,ntmps47
   go_wp2
   go_ret;exact⟨_,rfl,λe=>absurd (k2.o e) E2.o,Hc.o⟩
 ·have E1:=qI T;have HN:(s.toList == qn.toList)=false:=by rw[Qr];intro h;exact T (ByteArray.ext (by rw[Qs,Qs] at h;exact Array.toList_inj.1 h))
  clear T;have Hc:=qI (((Q0 w w).alloc (lR) (iF s t A b.length c1)).alloc (by simp) (iF qn qp a2 r.length c2))
  go_enter func47,ntmps47
  go_wp2
  go_ret;exact⟨_,rfl,λe=>absurd (k1.o e) E1.o,Hc.o⟩
theorem mH.atE{b o:Nat}{hs:List af}{cv a:Nat->Value}(h:mH w b o hs cv a){k:Nat}(c:k<hs.length):w.cell? ⟨b,o+k*4,none⟩=some (.string (ag hs k).pod.nm)/\w.cell? ⟨b,o+k*4+1,none⟩=some (.int .i64 (ag hs k).pod.pr)/\w.cell? ⟨b,o+k*4+2,none⟩=some (cv k)/\w.cell? ⟨b,o+k*4+3,none⟩=some (a k):=(h.2 k c).1
theorem b7.parts{v:Value}{gs:List aR}(h:b7 w v gs):∃a c,v=.slice a gs.length c/\(gs.length<=c/\c<=maxLen)/\∀k,k<gs.length->∃b o dv,a=some ⟨b,o,none⟩/\b<w.heap.size/\w.cell? ⟨b,o+k*2,none⟩=some (.int .u64 (aD gs k).cp)/\w.cell? ⟨b,o+k*2+1,none⟩=some dv/\bD w dv (aD gs k).dv:=by
 obtain⟨a,c,rfl,g,i⟩:=h;refine⟨a,c,rfl,g,λk d=>?_⟩;obtain⟨b,o,dv,f,Ha,e⟩:=i (by omega);exact⟨b,o,dv k,f,Ha,(e k d).1.1,(e k d).1.2.1,(e k d).2⟩
abbrev jy:=λ(x0:Int) (x1:Option Addr) (x2 x3:Nat)=>(.cells #[.int .u64 x0,.slice x1 x2 x3] 123:Obj)
theorem Cz(J v2:Value)(hs gs:List af)(w:World)(V:aY w J hs)(R:aY w v2 gs) :
  Calls prog 18 #[J,v2] w (Cv (hs=gs) w):=by
 obtain⟨a1,c1,rfl,m1,V⟩:=V;obtain⟨a2,c2,rfl,m2,R⟩:=R;unfold maxLen at m1 m2;have H1:=qI V;have H2:=qI R;clear V R;have k1:Hu (hs=gs->hs.length=gs.length):=λe=>by rw[e]
 have k2:Hu (∀k,hs=gs->ag hs k=ag gs k):=λk e=>by rw[e]
 generalize (hs=gs)=Y at *
 by_cases E:hs.length=gs.length
 ·rw[<- E];have U:=qI E;clear E
  go_enter func18,ntmps18
  go_wp2
  go_loopw [5] (λi wr=>∃k:Nat,k<=hs.length/\i=.int .i64 k/\Below w w wr) (λi _=>hs.length - (intOf i).toNat)
  case atStart=>exact⟨0,by omega,rfl,Q0 _ _⟩
  case round=>
   obtain⟨k,hk,rfl,q⟩:=hrel;have Hc:=qI q;clear q
   by_cases u:k<hs.length
   ·obtain⟨b1,d,I,HV,rfl,Hk⟩:=H1.o (by omega);obtain⟨b2,c,L,Z,rfl,Hp⟩:=H2.o (by rw[<- U.o];omega);have HA:k<gs.length:=by rw[<- U.o];exact u
    have Ho:=((Hk.below Hc.o).2 k u).2;have Hq:=((Hp.below Hc.o).2 k HA).2;have Hi:=qI (Hk.below Hc.o).1;have Hg:=qI (Hp.below Hc.o).1;have Hb:=qI (show (wr.drew.cell? ⟨b1,d+k*4,none⟩=some (.string (ag hs k).pod.nm)/\wr.drew.cell? ⟨b1,d+k*4+1,none⟩=some (.int .i64 (ag hs k).pod.pr)/\wr.drew.cell? ⟨b1,d+k*4+2,none⟩=some (I k)/\wr.drew.cell? ⟨b1,d+k*4+3,none⟩=some (HV k))/\(wr.drew.cell? ⟨b2,c+k*4,none⟩=some (.string (ag gs k).pod.nm)/\wr.drew.cell? ⟨b2,c+k*4+1,none⟩=some (.int .i64 (ag gs k).pod.pr)/\wr.drew.cell? ⟨b2,c+k*4+2,none⟩=some (L k)/\wr.drew.cell? ⟨b2,c+k*4+3,none⟩=some (Z k)) from⟨(Hk.below Hc.o).atE u,(Hp.below Hc.o).atE HA⟩);have HK:=qI (k2.o k);have HB:Below wr wr wr.drew:=⟨rfl,rfl,rfl,lR,λ_ _=>rfl⟩;have Hh:=qI (N6 (ag hs k).pod (ag gs k).pod (I k) (L k) wr.drew (Ho.1.below HB) (Hq.1.below HB));unfold cz at Hh;obtain⟨M,C,Ht,_,_⟩:=Ho.1;obtain⟨P,D,Hw,_,_⟩:=Hq.1;obtain⟨N,B,HM,A,HG⟩:=Ho.2.parts;obtain⟨G,H,HJ,v,HP⟩:=Hq.2.parts;have Hz:=qI HG;have Hv:=qI HP;unfold maxLen at A v;clear Ho Hq Hk Hp HG HP H1 H2;rw[Ht,HM,Hw,HJ] at Hb;rw[Ht,Hw] at Hh;clear Ht Hw HM HJ;generalize ag hs k=x at *;generalize ag gs k=y at *;obtain⟨⟨xn,xp,xc⟩,n⟩:=x;obtain⟨⟨yn,yp,yc⟩,r⟩:=y;dsimp only at Hb Hh Hz Hv A v
    go_wp2_with fail
    refine wp_region_held_drew (S:=(λw'=>(w'.cell? ⟨b1,d+k*4,none⟩=some (.string xn)/\w'.cell? ⟨b1,d+k*4+1,none⟩=some (.int .i64 xp)/\w'.cell? ⟨b1,d+k*4+2,none⟩=some (.slice M xc.length C)/\w'.cell? ⟨b1,d+k*4+3,none⟩=some (.slice N n.length B))/\(w'.cell? ⟨b2,c+k*4,none⟩=some (.string yn)/\w'.cell? ⟨b2,c+k*4+1,none⟩=some (.int .i64 yp)/\w'.cell? ⟨b2,c+k*4+2,none⟩=some (.slice P yc.length D)/\w'.cell? ⟨b2,c+k*4+3,none⟩=some (.slice G r.length H)))) (by kernel_rfl) Hb.o λhQ=>?_;refine tk 0 ?_;refine tk 1 ?_;refine tk 2 ?_;refine tk 3 ?_;refine tk 4 ?_;refine tk 5 ?_;refine tk 6 ?_;refine tk 7 ?_;refine tk 8 ?_;refine tk 9 ?_;refine rd 10 λK hK=>?_;go_simp
    go_wp2_with fail
    refine Hh.o.mono ?_;rintro e o ⟨sb,rfl,HD,Ha⟩;have Hf:=qI (Hc.o.trans ((show Below wr wr o from⟨Ha.os,Ha.tape,Ha.output,Ha.size,Ha.block⟩).mono Hc.o.size));have Hm:=qI (show Below wr wr o from⟨Ha.os,Ha.tape,Ha.output,Ha.size,Ha.block⟩);have HH:=qI HD;have Hs:=qI (show (o.cell? ⟨b1,d+k*4,none⟩=some (.string xn)/\o.cell? ⟨b1,d+k*4+1,none⟩=some (.int .i64 xp)/\o.cell? ⟨b1,d+k*4+2,none⟩=some (.slice M xc.length C)/\o.cell? ⟨b1,d+k*4+3,none⟩=some (.slice N n.length B))/\(o.cell? ⟨b2,c+k*4,none⟩=some (.string yn)/\o.cell? ⟨b2,c+k*4+1,none⟩=some (.int .i64 yp)/\o.cell? ⟨b2,c+k*4+2,none⟩=some (.slice P yc.length D)/\o.cell? ⟨b2,c+k*4+3,none⟩=some (.slice G r.length H)) from⟨⟨(Ha.cell (p:=⟨b1,d+k*4,none⟩) Hi.o).trans Hb.o.1.1,(Ha.cell (p:=⟨b1,d+k*4+1,none⟩) Hi.o).trans Hb.o.1.2.1,(Ha.cell (p:=⟨b1,d+k*4+2,none⟩) Hi.o).trans Hb.o.1.2.2.1,(Ha.cell (p:=⟨b1,d+k*4+3,none⟩) Hi.o).trans Hb.o.1.2.2.2⟩,⟨(Ha.cell (p:=⟨b2,c+k*4,none⟩) Hg.o).trans Hb.o.2.1,(Ha.cell (p:=⟨b2,c+k*4+1,none⟩) Hg.o).trans Hb.o.2.2.1,(Ha.cell (p:=⟨b2,c+k*4+2,none⟩) Hg.o).trans Hb.o.2.2.2.1,(Ha.cell (p:=⟨b2,c+k*4+3,none⟩) Hg.o).trans Hb.o.2.2.2.2⟩⟩);clear Ha HD
    go_wp2_with fail
    refine hK.o _ _ Hs.o λhQ=>?_;clear hK K;refine tk 11 ?_;refine Qn (by kernel_rfl) ?_ _;clear hQ Hh Hb;have r3:=Hs.o.1.2.2.2;have s3:=Hs.o.2.2.2.2;have KP:Hu (Y->(⟨xn,xp,xc⟩:aj)=⟨yn,yp,yc⟩):=λe=>by have h:=HK.o e;injection h
    have KG:Hu (Y->n=r):=λe=>by have h:=HK.o e;injection h
    clear HK;cases sb with
    | false=>
     go_wp2
     go_quiet (fail)
     go_wp2
     go_ret;exact⟨_,rfl,λe=>absurd (HH.o (KP.o e)) (by decide),Hf.o.trans ((nZ _ _).mono Hf.o.size)⟩
    | true=>
     clear HH KP
     by_cases F:n.length=r.length
     ·rw[<- F] at s3;have E2:=qI F;clear F v
      go_wp2
      go_quiet (fail)
      go_wp2
      go_loopw [7] (λi wq=>∃j:Nat,j<=n.length/\i=.int .i64 j/\Below o o wq) (λi _=>n.length - (intOf i).toNat)
      case atStart=>exact⟨0,by omega,rfl,nZ _ _⟩
      case round=>
       obtain⟨j,hj,rfl,q⟩:=hrel;have HU:=Q1 Hi.o Hm.o.size;have HI:=Q1 Hg.o Hm.o.size;have r4:=(q.cell (p:=⟨b1,d+k*4+3,none⟩) HU).trans r3;have s4:=(q.cell (p:=⟨b2,c+k*4+3,none⟩) HI).trans s3;have Hy:=qI (Hf.o.trans (q.mono Hf.o.size));have He:=qI (Hm.o.trans (q.mono Hm.o.size));have Hx:=qI q;clear q
       by_cases O:j<n.length
       ·obtain⟨u1,J,HY,rfl,HC,x0,x1,HQ⟩:=Hz.o j O;obtain⟨Q,v2,HX,rfl,Hn,X,W,HE⟩:=Hv.o j (by rw[<- E2.o];exact O);have x0:=(He.o.cell (p:=⟨u1,J+j*2,none⟩) HC).trans x0;have x1:=(He.o.cell (p:=⟨u1,J+j*2+1,none⟩) HC).trans x1;have X:=(He.o.cell (p:=⟨Q,v2+j*2,none⟩) Hn).trans X;have W:=(He.o.cell (p:=⟨Q,v2+j*2+1,none⟩) Hn).trans W;have j1:Hu (Y->(aD n j).cp=(aD r j).cp):=λe=>by rw[KG.o e]
        have j2:Hu (Y->(aD n j).dv=(aD r j).dv):=λe=>by rw[KG.o e]
        have HO:=qI (HQ.below He.o);have HN:=qI (HE.below He.o);obtain⟨g,m,rfl,_,_⟩:=HQ;obtain⟨l,f,rfl,_,_⟩:=HE;generalize (aD n j).cp=b at *;generalize (aD r j).cp=a at *;generalize (aD n j).dv=s at *;generalize (aD r j).dv=t at *;have z:=(Q0 wr wr).alloc (lR) (jy b g s.length m);have s4:=(z.cell (p:=⟨b2,c+k*4+3,none⟩) (Q1 HI Hx.o.size)).trans s4;have X:=(z.cell (p:=⟨Q,v2+j*2,none⟩) (Q1 Hn He.o.size)).trans X;have W:=(z.cell (p:=⟨Q,v2+j*2+1,none⟩) (Q1 Hn He.o.size)).trans W;have Hl:=qI (z.alloc z.size (jy a l t.length f));have HL:=qI (N0 _ _ s t _ (HO.o.below Hl.o) (HN.o.below Hl.o));have Hr:=qI (Hy.o.trans (Hl.o.mono Hy.o.size));have Hj:=qI (Hx.o.trans (Hl.o.mono Hx.o.size));have z0:((wr.alloc (jy b g s.length m)).alloc (jy a l t.length f)).cell? wr=some (.int .u64 b):=by simp
        have z1:((wr.alloc (jy b g s.length m)).alloc (jy a l t.length f)).cell? ⟨wr,1,none⟩=some (.slice g s.length m):=by simp
        have z2:((wr.alloc (jy b g s.length m)).alloc (jy a l t.length f)).cell? (wr.heap.size+1:Nat)=some (.int .u64 a):=by simp
        have z3:((wr.alloc (jy b g s.length m)).alloc (jy a l t.length f)).cell? ⟨wr.heap.size+1,1,none⟩=some (.slice l t.length f):=by simp
        clear z HO HN Hz Hv
        go_wp2_with fail
        generalize ((wr.alloc (jy b g s.length m)).alloc (jy a l t.length f))=W6 at *;refine HL.o.mono ?_;rintro e w7 ⟨db,rfl,HF,n7,rfl⟩;have HR:=qI HF;clear HF HL
        by_cases T:b=a
        ·subst T;cases db with
         | true=>
          go_wp2
          go_roundw
          case rel=>exact⟨j+1,by omega,by go_num,Hj.o.trans ((nZ _ _).mono Hj.o.size)⟩
          case measure=>simp[intOf];omega
         | false=>
          go_wp2
          go_ret;exact⟨_,rfl,λe=>absurd (HR.o (j2.o e)) (by decide),Hr.o.trans ((nZ _ _).mono Hr.o.size)⟩
        ·have H3:((b:Int) == (a:Int))=false:=by simp;omega
         have HW:(b == a)=false:=by simpa using T
         have H0:¬ ((b:Int)=(a:Int)):=by omega
         have E3:=qI T;clear T
         go_wp2
         go_ret;exact⟨_,rfl,λe=>absurd (j1.o e) E3.o,Hr.o.trans ((nZ _ _).mono Hr.o.size)⟩
       ·have HT:j=n.length:=by omega
        subst HT
        go_wp2
        go_roundw
        case rel=>exact⟨k+1,by omega,by go_num,Hy.o⟩
        case measure=>simp[intOf];omega
     ·have HZ:((n.length:Int) == (r.length:Int))=false:=by simp;omega
      have E2:=qI F;clear F
      go_wp2
      go_quiet (fail)
      go_wp2
      go_ret;exact⟨_,rfl,λe=>absurd (congrArg List.length (KG.o e)) E2.o,Hf.o.trans ((nZ _ _).mono Hf.o.size)⟩
   ·have HS:k=hs.length:=by omega
    subst HS
    go_wp2
    go_ret;exact⟨_,rfl,λ_=>rfl,Hc.o⟩
 ·have q:((hs.length:Int) == (gs.length:Int))=false:=by simp;omega
  have U:=qI E;clear E
  go_enter func18,ntmps18
  go_wp2
  go_ret;exact⟨_,rfl,λe=>absurd (k1.o e) U.o,Q0 _ _⟩
theorem bv.rowsL(h:bv w v ds):er w v 2 mr:=by
 obtain⟨f,c,i,l,m⟩:=h;refine⟨f,_,c,i,l,λe=>?_⟩;obtain⟨b,o,g,Ha,d⟩:=m e;refine⟨b,o,g,Ha,λk a=>⟨[.string (aq ds k).kind,.int .i64 (aq ds k).many],rfl,λj n=>?_,⟨_,_,rfl⟩⟩⟩
 match j,n with
 | 0,_=>exact (d k a).1
 | 1,_=>exact (d k a).2
theorem aQ.rowsL{cs:List aB}(h:aQ w v cs):er w v 6 (jT w):=by
 obtain⟨g,c,j,e,l⟩:=h;refine⟨g,_,c,j,Q5 e.1 e.2,λf=>?_⟩;obtain⟨b,o,dv,i,a⟩:=l f;exact⟨b,o,i,a.1,λk d=>⟨di (ae cs k) (dv k),rfl,(a.2 k d).1,⟨_,_,_,_,_,_,rfl,(a.2 k d).2.rowsL⟩⟩⟩
theorem N7{p:aj}{cv:Value}(h:aQ w cv p.cs):Calls prog 24 #[cz p cv] w λe w'=>Ans e/\Below w w w':=Ag p.nm p.pr cv w h.rowsL
theorem N8(f:Int)(w:World):(Instr.typeAssert (.iface 108 f) 40 108 true).run prog w=.ok (.tuple #[f,true]) w:=by kernel_rfl
theorem N9(k:Int)(w:World):Calls prog 14 #[.iface 108 k] w λe w'=>e=.returned k/\w'=w:=by
 have a:=N8 k
 go_enter func14,ntmps14
 go_wp2
 go_ret;exact⟨rfl,rfl⟩
