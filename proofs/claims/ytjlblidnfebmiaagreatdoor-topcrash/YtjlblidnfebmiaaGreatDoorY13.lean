import Derived.Test.YtjlblidnfebmiaaGreatDoorY12
import Derived.Test.YtjlblidnfebmiaaGreatDoorY9
import Derived.Lib.ItoaMem
set_option maxRecDepth 100000
set_option maxHeartbeats 16000000
open Go Go.RowKit Go.Shelf
attribute [local go_sem] Oper.semAt_some
open Go.Proofs.Tryz
namespace Go.Proofs.YtjlblidnfebmiaaGreatDoor
variable{w:World}
section
open RowKit Go.Sort
theorem holds_zero0(w:World)(T:TypeId)(n:Nat)(hs:n<=24):Holds (λ(b:UInt8)=>Value.int .u8 (b.toNat:Int)) (w.alloc (.cells Lib.zeros24 T)) w 0 (Array.replicate n (0:UInt8)):=λj a=>by
 have Ha:j<n:=by simpa using a
 refine⟨?_,World.frozen?_alloc_new _ _ _ _⟩;rw[World.cell?_alloc_new,Lib.zeros24_at _ (by omega),getElem!_pos _ j a]
 simp
theorem Mr(w:World)(o:Obj)(c:Array UInt8)(k:Nat):∃os,(putRow (λ(b:UInt8)=>Value.int .u8 (b.toNat:Int)) (w.alloc o) w 0 c).drewN k=grow (w.drewN k) os:=by
 rw[alloc_eq_grow];obtain⟨a,_,e⟩:=putRow_grow_new (λ(b:UInt8)=>Value.int .u8 (b.toNat:Int)) w #[o] w 0 c (lR);exact⟨a,by rw[e];rfl⟩
theorem Ms(u:Nat){w:World}(a:u<18446744073709551616)(c:kG w) :
  CB 232 #[.int .u64 u,(10:Int)] w (.string ⟨(Lib.decDigits u).toArray⟩):=by
 by_cases hs:u<100
 ·have hd:decide ((u:Int)<100)=true:=Qc (by omega)
  go_enter func232,ntmps232
  go_wp2
  refine (Tryz.internal_strconv_small u hs _).e ?_
  go_wp2
  go_ret;exact⟨rfl,Q0 _ _⟩
 ·have Hc:1<=u:=by omega
  have hd:decide ((u:Int)<100)=false:=Q7 (by omega);have He:Lib.nDigits u<=20:=by have:=Lib.numDigits_eq u Hc a;split at this <;> omega
  have Hj:∀W,(Instr.sliceAt 373 w none (some (.int .i64 (Lib.nDigits u:Int))) none).run prog W=.ok (.slice w (Lib.nDigits u) 24) W:=λW=>by
   have Hf:prog.arrayLen 373=24:=by kernel_rfl
   rw[run_sliceAt_array_h W 373 w (by kernel_rfl) .i64 (Lib.nDigits u:Int) (by omega) (by rw[Hf];omega)];go_simp
  have Hb:=holds_zero0 w 373 (Lib.nDigits u) (by omega);have Ha:=Tryz.internal_strconv_formatBase10 w 0 24 u (Array.replicate (Lib.nDigits u) 0) (w.alloc (.cells Lib.zeros24 373)) Hb (by grind[Lib.lt_pow_nDigits]) a (by grind);rw[Array.size_replicate] at Ha;have Hh:=qI Hb;have Hg:=qI Ha;have Hi:=qI (Lib.tabIs_alloc c (.cells Lib.zeros24 373));clear Hb Ha c
  go_enter func232,ntmps232
  go_wp2
  refine (Tryz.internal_strconv_numDigits u Hc a _ Hi).e ?_
  go_wp2
  refine Hg.o.mono ?_;rintro e w' ⟨rfl,k,l,d,rfl,f⟩;have Hk:(convert 243 9 (.slice w (Lib.nDigits u) 24)).run prog ((putRow (λ(b:UInt8)=>Value.int .u8 (b.toNat:Int)) (w.alloc (.cells Lib.zeros24 373)) w 0 d).drewN k)=.ok (.string ⟨(Lib.decDigits u).toArray⟩) ((putRow (λ(b:UInt8)=>Value.int .u8 (b.toNat:Int)) (w.alloc (.cells Lib.zeros24 373)) w 0 d).drewN k):=by
   have h:=run_convert_bytes_back (P:=prog) ((putRow (λ(b:UInt8)=>Value.int .u8 (b.toNat:Int)) (w.alloc (.cells Lib.zeros24 373)) w 0 d).drewN k) 243 9 5 w 24 (Lib.decDigits u) underlying243 underlying5 underlying9 (λj g=>by
    rw[Lib.row_is_numeral f j g,Lib.add_plain,World.cell?_drewN];exact cell?_putRow (λ(b:UInt8)=>Value.int .u8 (b.toNat:Int)) _ w 0 _ d Hh (by rw[f.size,Array.size_replicate]) j (by rw[f.size];rw[Lib.decDigits_length] at g;exact g))
   rw[Lib.decDigits_length] at h;exact h
  go_wp2
  go_ret;obtain⟨os,i⟩:=Mr w (.cells Lib.zeros24 373) d k;exact⟨rfl,by simp_all[Cy]⟩
theorem Mt(u:Nat){w:World}(b:u<18446744073709551616)(a:kG w) :
  CB 182 #[.int .u64 u,(10:Int)] w (.string ⟨(Lib.decDigits u).toArray⟩):=by
 have d:=qI a;clear a
 go_enter func182,ntmps182
 go_wp2
 refine (Ms u b d).m λf c=>?_
 go_wp2
 go_ret;exact⟨rfl,c⟩
theorem qF(a b:List UInt8):(ByteArray.mk a.toArray)++(ByteArray.mk b.toArray)=ByteArray.mk (a++b).toArray:=by
 apply ByteArray.ext;simp
theorem CA(b:List UInt8){w:World}(i:b.length<=1000000)(a:kG w) :
  CB 142 #[.string ⟨b.toArray⟩] w (.string ⟨(dZ b).toArray⟩):=by
 have c:=qI a;clear a;have HS:=qI (JF ⟨b.toArray⟩ w (by grind[maxLen,ByteArray.size]));have Hb:=wu b;have hle:=xf (gT b) (by omega);have f:Hu (dZ b=[115,117,109,32]++Lib.decDigits (gT b)++[10]):=rfl;have d:(ByteArray.mk b.toArray).data.toList=b:=by simp
 rw[d] at HS;generalize gT b=H at *;generalize dZ b=S at *;have j:=qF [115,117,109,32] (Lib.decDigits H);have g:=qF ([115,117,109,32]++Lib.decDigits H) [10]
 go_enter func142,ntmps142
 go_wp2
 refine HS.o.e ?_
 go_wp2
 refine (Mt H (by omega) c).m λh Ha=>?_
 go_wp2
 go_ret;exact⟨by rw[f.o];exact congrArg (λx=>Ending.returned (Value.string x)) g,Ha⟩
theorem xE{l:List UInt8}{w:World}:CE 179 #[.string ⟨l.toArray⟩] w (.string ⟨(eI l).toArray⟩):=by
 have b:((ByteArray.mk l.toArray).toList.isEmpty)=l.isEmpty:=by simp
 by_cases h:l=[]
 ·subst h
  go_enter func179,ntmps179
  go_wp2
  go_ret;exact⟨rfl,rfl⟩
 ·have c:l.isEmpty=false:=by simpa using h
  rw[c] at b;have a:Hu (eI l=l):=by grind[Hu,eI]
  rw[a.o]
  go_enter func179,ntmps179
  go_wp2
  go_ret;exact⟨rfl,rfl⟩
end
theorem Mu{B g m:Nat}{n k:Sd}{l:Int}{d:Bool}{wr:Bool}{bs:ByteArray}(keep a:Int){w:World}(h:aQ w B n k (.slice g 1 m) l d)(r:jS w g wr bs)(q:1<=m)(c:keep<=0)(b:a<=0\/wr=false) :
  Calls pg 15 #[.pointer (some ⟨B,0,none⟩),.int .i64 keep,.int .i64 a] w λe w'=>e=.returned (.tuple #[])/\aQ w' B k k () (-1) false/\cA B w w':=by
 obtain⟨_,y,_⟩:=r;obtain⟨a0,z,a2,a3⟩:=h.now;obtain⟨a4,a5,v,t⟩:=h.kept;obtain⟨u,a9,s⟩:=h.rest;have f0:=h.frozen 0;have f1:=h.frozen 1;have f2:=h.frozen 2;have f3:=h.frozen 3;have A:=h.frozen 8;have x:=h.frozen 9;have f10:=h.frozen 10;have f:=qI ((((h.setNow k).set8 ()).set9 (-1)).set10 false);have j:=qI (((((cA.refl B w).putS 0 k).set 8 ()).set 9 (-1:Int)).set 10 false);clear h;unfold putS at f j;simp only[Qd] at f j
 rcases Int.lt_or_eq_of_le c with p|p
 ·have Hc:max keep 0=0:=by omega
  have He:=Qc p;have Hb:min (0:Int) 1=0:=by omega
  clear c
  rcases Int.lt_or_le 0 a with o|o
  ·have Ha:decide (0<a)=true:=Qc o
   rcases b with b|b
   ·omega
   subst b
   go_enter func15,ntmps15
   go_wp2
   go_loop [23] (λi=>i=.int .i64 0) (λ_=>0)
   case atStart=>rfl
   case round=>
    subst hrel
    go_wp2
    go_end0
    exact⟨rfl,f,j⟩
  ·have Ha:decide (0<a)=false:=Q7 (by omega)
   go_enter func15,ntmps15
   go_wp2
   go_loop [23] (λi=>i=.int .i64 0) (λ_=>0)
   case atStart=>rfl
   case round=>
    subst hrel
    go_wp2
    go_end0
    exact⟨rfl,f,j⟩
 ·subst p;have Hb:min (0:Int) 1=0:=by omega
  clear c
  rcases Int.lt_or_le 0 a with o|o
  ·have Ha:decide (0<a)=true:=Qc o
   rcases b with b|b
   ·omega
   subst b
   go_enter func15,ntmps15
   go_wp2
   go_loop [23] (λi=>i=.int .i64 0) (λ_=>0)
   case atStart=>rfl
   case round=>
    subst hrel
    go_wp2
    go_end0
    exact⟨rfl,f,j⟩
  ·have Ha:decide (0<a)=false:=Q7 (by omega)
   go_enter func15,ntmps15
   go_wp2
   go_loop [23] (λi=>i=.int .i64 0) (λ_=>0)
   case atStart=>rfl
   case round=>
    subst hrel
    go_wp2
    go_end0
    exact⟨rfl,f,j⟩
theorem pt{W:World}{B p q:Nat}{s:Sd}{z0 z1 z2 z3:Value}{a:Act}{c:TypeId}{pos:String}{after:Array Edge}{guard:Option (Nat × Bool)}{K:Act->World->Prop}{Q:Exit->Act->World->Prop}
  (c0:W.cell? ⟨B,4,none⟩=some z0) (c1:W.cell? ⟨B,5,none⟩=some z1) (c2:W.cell? ⟨B,6,none⟩=some z2) (c3:W.cell? ⟨B,7,none⟩=some z3) (f0:W.frozen? ⟨B,4,none⟩=false) (f1:W.frozen? ⟨B,5,none⟩=false) (f2:W.frozen? ⟨B,6,none⟩=false) (f3:W.frozen? ⟨B,7,none⟩=false)
  (f:a.tmps[p]?.getD undef=.pointer (some ⟨B,4,none⟩)) (e:a.tmps[q]?.getD undef=s.agg) (b:K a (putS W B 4 s)) :
  Oper.wp prog { dst:=none,op:=Op.store 93 (Operand.tmp p) (Operand.tmp q),type:=c,pos:=pos,after:=after,guard:=guard } a W K Q:=by
 unfold putS at b;unfold Sd.agg at e;have d:=qI b;clear b;go_simp;exact d.o
theorem Mv{B g q:Nat}{n k:Sd}{l:Int}{d:Bool}{o:Bool}{bs:ByteArray}(keep b:Int){w:World}(h:aQ w B n k (.slice g 1 q) l d)(E:jS w g o bs)(F:1<=q)(C:1<=keep) :
  Calls pg 15 #[.pointer (some ⟨B,0,none⟩),.int .i64 keep,.int .i64 b] w λe w'=>e=.returned (.tuple #[])/\aQ w' B (Chg.on ⟨o,bs⟩ k) (Chg.on ⟨o,bs⟩ k) () (-1) false/\w.grownBy w' (some B):=by
 have He:=qI (wH ⟨o,bs⟩ k);obtain⟨c,Hp⟩:∃c,c=Chg.on ⟨o,bs⟩ k:=⟨_,rfl⟩;rw[<- Hp] at He ⊢;unfold Chg.agg at He;rw[show k.agg=.agg #[k.ft,k.fb,k.dt,k.db] from rfl] at He;dsimp only at He;obtain⟨O,_,_⟩:=h.rest;have v:=qI h;have u:=qI E;have Hq:=h.lt;clear h E Hp;have Hv:max keep 0=keep:=by omega
 have Hr:decide (keep<0)=false:=Q7 (by omega);have Ht:min keep 1=1:=by omega
 have Hs:decide (keep<1)=false:=Q7 (by omega)
 rcases Int.lt_or_eq_of_le C with y|y
 ·have Hu:decide (1<keep)=true:=Qc y
  go_enter func15,ntmps15
  go_wp2
  go_loopw [23] (λi wq=>(i=.int .i64 0/\wq=w)\/(i=.int .i64 1/\aQ wq B n c (.slice g 1 q) l d/\w.grownBy wq (some B))) (λi _=>1 - (intOf i).toNat)
  exact .inl ⟨rfl,rfl⟩
  ·rcases hrel with⟨rfl,rfl⟩|⟨rfl,Ha,Hi⟩
   ·obtain⟨_,L,g1⟩:=u.o;have Hc:=(Q0 wr wr).alloc (lR) (.cells #[o,bs] 111);have Hg:=qI (v.o.block (Hc.block B Hq));have Hm:=qI (show B<(wr.alloc (.cells #[o,bs] 111)).drew.heap.size from Hg.o.lt);have Hn:=qI (show wr.grownBy (wr.alloc (.cells #[o,bs] 111)) (some B) from⟨Hc.os,Hc.tape,Hc.output,Hc.size,λj z _=>Hc.block j z⟩);obtain⟨a4,a5,x,A⟩:=Hg.o.kept;clear Hc
    go_wp2
    refine wp_region_held_drew (S:=λ_=>True) (by kernel_rfl) trivial λf=>?_;refine tk 0 ?_;refine tk 2 ?_;refine tk 3 ?_;refine tk 4 ?_;refine rd2 1 5 (λK a=>?_) λK a=>?_
    ·go_simp;refine a.k trivial λf=>?_;(try simp only[Act.put,s1,s2,s3]);refine rd 5 λK a=>?_;go_simp;refine a.k trivial λf=>?_;(try simp only[Act.put,s1,s2,s3]);refine rd 6 λK a=>?_;go_simp
     go_wp2
     refine (He.o _).m λm Hf=>?_;have Hb:=Hg.o.block (w':=m) (Hf.block B Hm);have Hh:=qI (jT Hn (nI Hf))
     go_wp2
     refine a.k trivial λf=>?_;refine tk 7 ?_;refine tk 8 ?_;obtain⟨s,s1,s2,s3⟩:=Hb.kept;have Hj:=qI (Hb.setKept c);have Hk:=qI (dC Hh ((cA.refl B m).putS 4 c).1);refine rd 9 λK a=>?_;rw[if_pos (by rfl)];refine pt s s1 s2 s3 (Hb.frozen 4) (Hb.frozen 5) (Hb.frozen 6) (Hb.frozen 7) rfl rfl ?_;refine a.k trivial λf=>?_;clear a K Hb Hh s s1 s2 s3 Hf He;generalize putS m B 4 c=G at *;refine Qn (by kernel_rfl) ?_ _
     go_wp2
     go_roundw
     exact .inr ⟨rfl,Hj,Hk⟩
     simp[intOf]
    ·go_simp;refine a.k trivial λf=>?_;(try simp only[Act.put,s1,s2,s3]);refine rd 1 λK a=>?_;go_simp;refine a.k trivial λf=>?_;(try simp only[Act.put,s1,s2,s3]);refine rd 6 λK a=>?_;go_simp
     go_wp2
     refine (He.o _).m λm Hf=>?_;have Hb:=Hg.o.block (w':=m) (Hf.block B Hm);have Hh:=qI (jT Hn (nI Hf))
     go_wp2
     refine a.k trivial λf=>?_;refine tk 7 ?_;refine tk 8 ?_;obtain⟨s,s1,s2,s3⟩:=Hb.kept;have Hj:=qI (Hb.setKept c);have Hk:=qI (dC Hh ((cA.refl B m).putS 4 c).1);refine rd 9 λK a=>?_;rw[if_pos (by rfl)];refine pt s s1 s2 s3 (Hb.frozen 4) (Hb.frozen 5) (Hb.frozen 6) (Hb.frozen 7) rfl rfl ?_;refine a.k trivial λf=>?_;clear a K Hb Hh s s1 s2 s3 Hf He;generalize putS m B 4 c=G at *;refine Qn (by kernel_rfl) ?_ _
     go_wp2
     go_roundw
     exact .inr ⟨rfl,Hj,Hk⟩
     simp[intOf]
   ·obtain⟨a0,M,a2,a3⟩:=Ha.now;obtain⟨a4,a5,x,A⟩:=Ha.kept;obtain⟨J,I,D⟩:=Ha.rest;have f0:=Ha.frozen 0;have f1:=Ha.frozen 1;have f2:=Ha.frozen 2;have f3:=Ha.frozen 3;have N:=Ha.frozen 8;have H:=Ha.frozen 9;have f10:=Ha.frozen 10;have p:=qI ((((Ha.setNow c).set8 ()).set9 (-1)).set10 false);have r:=qI (dC Hi (((((cA.refl B wr).putS 0 c).set 8 ()).set 9 (-1:Int)).set 10 false).1);clear Ha Hi v u He;unfold putS at p r;simp only[Qd] at p r
    rcases Int.lt_or_le 0 b with t|t
    ·have Ho:decide (0<b)=true:=Qc t
     go_wp2
     go_end0
     exact⟨rfl,p,r⟩
    ·have Ho:decide (0<b)=false:=Q7 (by omega)
     go_wp2
     go_end0
     exact⟨rfl,p,r⟩
 ·subst y
  go_enter func15,ntmps15
  go_wp2
  go_loopw [23] (λi wq=>(i=.int .i64 0/\wq=w)\/(i=.int .i64 1/\aQ wq B n c (.slice g 1 q) l d/\w.grownBy wq (some B))) (λi _=>1 - (intOf i).toNat)
  exact .inl ⟨rfl,rfl⟩
  ·rcases hrel with⟨rfl,rfl⟩|⟨rfl,Ha,Hi⟩
   ·obtain⟨_,L,g1⟩:=u.o;have Hc:=(Q0 wr wr).alloc (lR) (.cells #[o,bs] 111);have Hg:=qI (v.o.block (Hc.block B Hq));have Hm:=qI (show B<(wr.alloc (.cells #[o,bs] 111)).drew.heap.size from Hg.o.lt);have Hn:=qI (show wr.grownBy (wr.alloc (.cells #[o,bs] 111)) (some B) from⟨Hc.os,Hc.tape,Hc.output,Hc.size,λj z _=>Hc.block j z⟩);obtain⟨a4,a5,x,A⟩:=Hg.o.kept;clear Hc
    go_wp2
    refine wp_region_held_drew (S:=λ_=>True) (by kernel_rfl) trivial λf=>?_;refine tk 0 ?_;refine tk 2 ?_;refine tk 3 ?_;refine tk 4 ?_;refine rd2 1 5 (λK a=>?_) λK a=>?_
    rotate_left
    have Hl:=trivial
    rotate_left
    all_goals
     go_simp;refine a.k trivial λf=>?_;(try simp only[Act.put,s1,s2,s3])
     first|(have:=Hl;refine rd 1 λK a=>?_)|refine rd 5 λK a=>?_
     go_simp;refine a.k trivial λf=>?_;(try simp only[Act.put,s1,s2,s3]);refine rd 6 λK a=>?_;go_simp
     go_wp2
     refine (He.o _).m λm Hf=>?_;have Hb:=Hg.o.block (w':=m) (Hf.block B Hm);have Hh:=qI (jT Hn (nI Hf))
     go_wp2
     refine a.k trivial λf=>?_;refine tk 7 ?_;refine tk 8 ?_;obtain⟨s,s1,s2,s3⟩:=Hb.kept;have Hj:=qI (Hb.setKept c);have Hk:=qI (dC Hh ((cA.refl B m).putS 4 c).1);refine rd 9 λK a=>?_;rw[if_pos (by rfl)];refine pt s s1 s2 s3 (Hb.frozen 4) (Hb.frozen 5) (Hb.frozen 6) (Hb.frozen 7) rfl rfl ?_;refine a.k trivial λf=>?_;clear a K Hb Hh s s1 s2 s3 Hf He;generalize putS m B 4 c=G at *;refine Qn (by kernel_rfl) ?_ _
     go_wp2
     go_roundw
     exact .inr ⟨rfl,Hj,Hk⟩
     simp[intOf]
   ·obtain⟨a0,M,a2,a3⟩:=Ha.now;obtain⟨a4,a5,x,A⟩:=Ha.kept;obtain⟨J,I,D⟩:=Ha.rest;have f0:=Ha.frozen 0;have f1:=Ha.frozen 1;have f2:=Ha.frozen 2;have f3:=Ha.frozen 3;have N:=Ha.frozen 8;have H:=Ha.frozen 9;have f10:=Ha.frozen 10;have p:=qI ((((Ha.setNow c).set8 ()).set9 (-1)).set10 false);have r:=qI (dC Hi (((((cA.refl B wr).putS 0 c).set 8 ()).set 9 (-1:Int)).set 10 false).1);clear Ha Hi v u He;unfold putS at p r;simp only[Qd] at p r
    rcases Int.lt_or_le 0 b with t|t
    ·have Ho:decide (0<b)=true:=Qc t
     go_wp2
     go_end0
     exact⟨rfl,p,r⟩
    ·have Ho:decide (0<b)=false:=Q7 (by omega)
     go_wp2
     go_end0
     exact⟨rfl,p,r⟩
theorem Mw{B g u:Nat}{n k:Sd}{l:Int}{d:Bool}{bs:ByteArray}(keep j:Int){w:World}(h:aQ w B n k (.slice g 1 u) l d)(P:jS w g true bs)(Q:1<=u)(t:g≠B)(v:keep<=0)(O:0<j) :
  Calls pg 15 #[.pointer (some ⟨B,0,none⟩),.int .i64 keep,.int .i64 j] w λe w'=>e=.returned (.tuple #[])/\aQ w' B (Chg.on ⟨true,bs.extract 0 (min j bs.size).toNat⟩ k) (Chg.on ⟨true,bs.extract 0 (min j bs.size).toNat⟩ k) () (-1) false/\w.grownBy w' (some B):=by
 have Ho:=qI λw=>Md true bs j w O;obtain⟨z,Hs⟩:∃z,z=bs.extract 0 (min j bs.size).toNat:=⟨_,rfl⟩;rw[<- Hs] at Ho ⊢;have Hj:=qI (wH ⟨true,z⟩ k);obtain⟨b,Hr⟩:∃b,b=Chg.on ⟨true,z⟩ k:=⟨_,rfl⟩;rw[<- Hr] at Hj ⊢;unfold Chg.agg at Hj;rw[show k.agg=.agg #[k.ft,k.fb,k.dt,k.db] from rfl] at Hj;dsimp only at Hj;obtain⟨T,_,_⟩:=h.rest;have p:=qI P;obtain⟨_,R,g1⟩:=P;have q:=qI h;have Hq:=h.lt;have Hp:=qI (show w.grownBy w (some B) from⟨rfl,rfl,rfl,lR,λ_ _ _=>rfl⟩);have Hv:=Qc O;clear h Hr Hs
 rcases Int.lt_or_eq_of_le v with E|E
 ·have Hw:max keep 0=0:=by omega
  have Hu:=Qc E;have Ht:min (0:Int) 1=0:=by omega
  clear v
  go_enter func15,ntmps15
  go_wp2
  go_loop [23] (λi=>i=.int .i64 0) (λ_=>0)
  case atStart=>rfl
  case round=>
   subst hrel
   go_wp2
   refine wp_region_held_drew (S:=λw'=>cl w' B (8) (.slice g 1 u)/\cl w' g (0) true/\cl w' g (1) bs) (by kernel_rfl) ⟨T,R,g1⟩ λf=>?_;refine tk 0 ?_;refine tk 1 ?_;refine tk 2 ?_;refine tk 3 ?_;refine tk 4 ?_;refine tk 5 ?_;refine tk 6 ?_;refine tk 7 ?_;refine tk 8 ?_;refine tk 10 ?_;refine tk 11 ?_;refine tk 12 ?_;refine rd2 9 13 (λK a=>?_) λK a=>?_
   ·go_simp
    go_wp2
    refine (Ho.o _).m λs Hi=>?_;have He:=qI (q.o.block (w':=s) (Hi.block B Hq));have Hf:=qI (p.o.block (w':=s) (Hi.block g p.o.1));have Hm:=qI (jT Hp (nI Hi));have Hc:=He.o.lt;clear Hi
    go_wp2
    refine a.o _ _ ⟨He.o.rest.1,Hf.o.2⟩ λf=>?_;clear a K;obtain⟨A,I,L,F⟩:=He.o.kept;refine rd 13 λK a=>?_;go_simp;refine a.o _ _ ⟨He.o.rest.1,Hf.o.2⟩ λf=>?_;clear a K;(try simp only[Act.put,s1,s2,s3]);refine rd 14 λK a=>?_;go_simp
    go_wp2
    refine (Hj.o _).m λc Hh=>?_;have Hb:=He.o.block (w':=c) (Hh.block B Hc);have Hg:=Hf.o.block (w':=c) (Hh.block g Hf.o.1);have Hk:=qI (jT Hm Hh)
    go_wp2
    refine a.o _ _ ⟨Hb.rest.1,Hg.2⟩ λf=>?_;clear a K;refine tk 15 ?_;refine tk 16 ?_;obtain⟨r,s1,s2,s3⟩:=Hb.kept;have Ha:=qI (Hb.setKept b);have Hn:=qI (Hg.block (((cA.refl B c).putS 4 b).1.block g Hg.1 λe=>t (Ql e)));have Hl:=qI (dC Hk ((cA.refl B c).putS 4 b).1);refine rd 17 λK a=>?_;rw[if_pos (by rfl)];refine pt r s1 s2 s3 (Hb.frozen 4) (Hb.frozen 5) (Hb.frozen 6) (Hb.frozen 7) rfl rfl ?_;refine a.o _ _ ⟨Ha.o.rest.1,Hn.o.2⟩ λf=>?_;clear a K Hb Hg Hk r s1 s2 s3 Hh Hj Ho He Hf Hm Hc q p Hp;generalize putS c B 4 b=x at *;refine Qn (by kernel_rfl) ?_ _;clear f Hn;obtain⟨a0,M,a2,a3⟩:=Ha.o.now;obtain⟨a4,a5,C,J⟩:=Ha.o.kept;obtain⟨H,G,y⟩:=Ha.o.rest;have f0:=Ha.o.frozen 0;have f1:=Ha.o.frozen 1;have f2:=Ha.o.frozen 2;have f3:=Ha.o.frozen 3;have N:=Ha.o.frozen 8;have D:=Ha.o.frozen 9;have f10:=Ha.o.frozen 10;have m:=qI ((((Ha.o.setNow b).set8 ()).set9 (-1)).set10 false);have o:=qI (dC Hl (((((cA.refl B x).putS 0 b).set 8 ()).set 9 (-1:Int)).set 10 false).1);unfold putS at m o;simp only[Qd] at m o;clear Ha Hl
    go_wp2
    go_end0
    exact⟨rfl,m,o⟩
   ·obtain⟨A,I,L,F⟩:=q.o.kept;go_simp;refine a.o _ _ ⟨q.o.rest.1,p.o.2⟩ λf=>?_;clear a K;(try simp only[Act.put,s1,s2,s3]);refine rd 9 λK a=>?_;go_simp
    go_wp2
    refine (Ho.o _).m λs Hi=>?_;have He:=qI (q.o.block (w':=s) (Hi.block B Hq));have Hf:=qI (p.o.block (w':=s) (Hi.block g p.o.1));have Hm:=qI (jT Hp (nI Hi));have Hc:=He.o.lt;clear Hi
    go_wp2
    refine a.o _ _ ⟨He.o.rest.1,Hf.o.2⟩ λf=>?_;clear a K;refine rd 14 λK a=>?_;go_simp
    go_wp2
    refine (Hj.o _).m λc Hh=>?_;have Hb:=He.o.block (w':=c) (Hh.block B Hc);have Hg:=Hf.o.block (w':=c) (Hh.block g Hf.o.1);have Hk:=qI (jT Hm Hh)
    go_wp2
    refine a.o _ _ ⟨Hb.rest.1,Hg.2⟩ λf=>?_;clear a K;refine tk 15 ?_;refine tk 16 ?_;obtain⟨r,s1,s2,s3⟩:=Hb.kept;have Ha:=qI (Hb.setKept b);have Hn:=qI (Hg.block (((cA.refl B c).putS 4 b).1.block g Hg.1 λe=>t (Ql e)));have Hl:=qI (dC Hk ((cA.refl B c).putS 4 b).1);refine rd 17 λK a=>?_;rw[if_pos (by rfl)];refine pt r s1 s2 s3 (Hb.frozen 4) (Hb.frozen 5) (Hb.frozen 6) (Hb.frozen 7) rfl rfl ?_;refine a.o _ _ ⟨Ha.o.rest.1,Hn.o.2⟩ λf=>?_;clear a K Hb Hg Hk r s1 s2 s3 Hh Hj Ho He Hf Hm Hc q p Hp;generalize putS c B 4 b=x at *;refine Qn (by kernel_rfl) ?_ _;clear f Hn;obtain⟨a0,M,a2,a3⟩:=Ha.o.now;obtain⟨a4,a5,C,J⟩:=Ha.o.kept;obtain⟨H,G,y⟩:=Ha.o.rest;have f0:=Ha.o.frozen 0;have f1:=Ha.o.frozen 1;have f2:=Ha.o.frozen 2;have f3:=Ha.o.frozen 3;have N:=Ha.o.frozen 8;have D:=Ha.o.frozen 9;have f10:=Ha.o.frozen 10;have m:=qI ((((Ha.o.setNow b).set8 ()).set9 (-1)).set10 false);have o:=qI (dC Hl (((((cA.refl B x).putS 0 b).set 8 ()).set 9 (-1:Int)).set 10 false).1);unfold putS at m o;simp only[Qd] at m o;clear Ha Hl
    go_wp2
    go_end0
    exact⟨rfl,m,o⟩
 ·subst E;have Ht:min (0:Int) 1=0:=by omega
  clear v
  go_enter func15,ntmps15
  go_wp2
  go_loop [23] (λi=>i=.int .i64 0) (λ_=>0)
  case atStart=>rfl
  case round=>
   subst hrel
   go_wp2
   refine wp_region_held_drew (S:=λw'=>cl w' B (8) (.slice g 1 u)/\cl w' g (0) true/\cl w' g (1) bs) (by kernel_rfl) ⟨T,R,g1⟩ λf=>?_;refine tk 0 ?_;refine tk 1 ?_;refine tk 2 ?_;refine tk 3 ?_;refine tk 4 ?_;refine tk 5 ?_;refine tk 6 ?_;refine tk 7 ?_;refine tk 8 ?_;refine tk 10 ?_;refine tk 11 ?_;refine tk 12 ?_;refine rd2 9 13 (λK a=>?_) λK a=>?_
   ·go_simp
    go_wp2
    refine (Ho.o _).m λs Hi=>?_;have He:=qI (q.o.block (w':=s) (Hi.block B Hq));have Hf:=qI (p.o.block (w':=s) (Hi.block g p.o.1));have Hm:=qI (jT Hp (nI Hi));have Hc:=He.o.lt;clear Hi
    go_wp2
    refine a.o _ _ ⟨He.o.rest.1,Hf.o.2⟩ λf=>?_;clear a K;obtain⟨A,I,L,F⟩:=He.o.kept;refine rd 13 λK a=>?_;go_simp;refine a.o _ _ ⟨He.o.rest.1,Hf.o.2⟩ λf=>?_;clear a K;(try simp only[Act.put,s1,s2,s3]);refine rd 14 λK a=>?_;go_simp
    go_wp2
    refine (Hj.o _).m λc Hh=>?_;have Hb:=He.o.block (w':=c) (Hh.block B Hc);have Hg:=Hf.o.block (w':=c) (Hh.block g Hf.o.1);have Hk:=qI (jT Hm Hh)
    go_wp2
    refine a.o _ _ ⟨Hb.rest.1,Hg.2⟩ λf=>?_;clear a K;refine tk 15 ?_;refine tk 16 ?_;obtain⟨r,s1,s2,s3⟩:=Hb.kept;have Ha:=qI (Hb.setKept b);have Hn:=qI (Hg.block (((cA.refl B c).putS 4 b).1.block g Hg.1 λe=>t (Ql e)));have Hl:=qI (dC Hk ((cA.refl B c).putS 4 b).1);refine rd 17 λK a=>?_;rw[if_pos (by rfl)];refine pt r s1 s2 s3 (Hb.frozen 4) (Hb.frozen 5) (Hb.frozen 6) (Hb.frozen 7) rfl rfl ?_;refine a.o _ _ ⟨Ha.o.rest.1,Hn.o.2⟩ λf=>?_;clear a K Hb Hg Hk r s1 s2 s3 Hh Hj Ho He Hf Hm Hc q p Hp;generalize putS c B 4 b=x at *;refine Qn (by kernel_rfl) ?_ _;clear f Hn;obtain⟨a0,M,a2,a3⟩:=Ha.o.now;obtain⟨a4,a5,C,J⟩:=Ha.o.kept;obtain⟨H,G,y⟩:=Ha.o.rest;have f0:=Ha.o.frozen 0;have f1:=Ha.o.frozen 1;have f2:=Ha.o.frozen 2;have f3:=Ha.o.frozen 3;have N:=Ha.o.frozen 8;have D:=Ha.o.frozen 9;have f10:=Ha.o.frozen 10;have m:=qI ((((Ha.o.setNow b).set8 ()).set9 (-1)).set10 false);have o:=qI (dC Hl (((((cA.refl B x).putS 0 b).set 8 ()).set 9 (-1:Int)).set 10 false).1);unfold putS at m o;simp only[Qd] at m o;clear Ha Hl
    go_wp2
    go_end0
    exact⟨rfl,m,o⟩
   ·obtain⟨A,I,L,F⟩:=q.o.kept;go_simp;refine a.o _ _ ⟨q.o.rest.1,p.o.2⟩ λf=>?_;clear a K;(try simp only[Act.put,s1,s2,s3]);refine rd 9 λK a=>?_;go_simp
    go_wp2
    refine (Ho.o _).m λs Hi=>?_;have He:=qI (q.o.block (w':=s) (Hi.block B Hq));have Hf:=qI (p.o.block (w':=s) (Hi.block g p.o.1));have Hm:=qI (jT Hp (nI Hi));have Hc:=He.o.lt;clear Hi
    go_wp2
    refine a.o _ _ ⟨He.o.rest.1,Hf.o.2⟩ λf=>?_;clear a K;refine rd 14 λK a=>?_;go_simp
    go_wp2
    refine (Hj.o _).m λc Hh=>?_;have Hb:=He.o.block (w':=c) (Hh.block B Hc);have Hg:=Hf.o.block (w':=c) (Hh.block g Hf.o.1);have Hk:=qI (jT Hm Hh)
    go_wp2
    refine a.o _ _ ⟨Hb.rest.1,Hg.2⟩ λf=>?_;clear a K;refine tk 15 ?_;refine tk 16 ?_;obtain⟨r,s1,s2,s3⟩:=Hb.kept;have Ha:=qI (Hb.setKept b);have Hn:=qI (Hg.block (((cA.refl B c).putS 4 b).1.block g Hg.1 λe=>t (Ql e)));have Hl:=qI (dC Hk ((cA.refl B c).putS 4 b).1);refine rd 17 λK a=>?_;rw[if_pos (by rfl)];refine pt r s1 s2 s3 (Hb.frozen 4) (Hb.frozen 5) (Hb.frozen 6) (Hb.frozen 7) rfl rfl ?_;refine a.o _ _ ⟨Ha.o.rest.1,Hn.o.2⟩ λf=>?_;clear a K Hb Hg Hk r s1 s2 s3 Hh Hj Ho He Hf Hm Hc q p Hp;generalize putS c B 4 b=x at *;refine Qn (by kernel_rfl) ?_ _;clear f Hn;obtain⟨a0,M,a2,a3⟩:=Ha.o.now;obtain⟨a4,a5,C,J⟩:=Ha.o.kept;obtain⟨H,G,y⟩:=Ha.o.rest;have f0:=Ha.o.frozen 0;have f1:=Ha.o.frozen 1;have f2:=Ha.o.frozen 2;have f3:=Ha.o.frozen 3;have N:=Ha.o.frozen 8;have D:=Ha.o.frozen 9;have f10:=Ha.o.frozen 10;have m:=qI ((((Ha.o.setNow b).set8 ()).set9 (-1)).set10 false);have o:=qI (dC Hl (((((cA.refl B x).putS 0 b).set 8 ()).set 9 (-1:Int)).set 10 false).1);unfold putS at m o;simp only[Qd] at m o;clear Ha Hl
    go_wp2
    go_end0
    exact⟨rfl,m,o⟩
theorem CC{w:World}{m n:Nat}:Bw w ((w.drewN m).drewN n):=⟨rfl,rfl,rfl,lR,λ_ _=>rfl⟩
theorem bC.parts{v:Value}{ds:List ak}(h:bC w v ds):∃a c,v=.slice a ds.length c/\ds.length<=maxLen/\∀k,k<ds.length->∃b o,a=some ⟨b,o,none⟩/\b<w.heap.size/\w.cell? ⟨b,o+k*2,none⟩=some (.string (ar ds k).kind)/\w.cell? ⟨b,o+k*2+1,none⟩=some (.int .i64 (ar ds k).many):=by
 obtain⟨a,c,rfl,i,g⟩:=h;refine⟨a,c,rfl,i,λk e=>?_⟩;obtain⟨b,o,f,Ha,d⟩:=g (by omega);exact⟨b,o,f,Ha,(d k e).1,(d k e).2⟩
abbrev mC:=λ(x0:ByteArray) (x1 x2 x3 x4:Int) (x5:Option Addr) (x6 x7:Nat)=>(.cells #[x0,x1,x2,x3,x4,.slice x5 x6 x7] 65:Obj)
abbrev iZ:=λ(x0:ByteArray) (x1:Int) (x2:Option Addr) (x3 x4:Nat)=>(.cells #[x0,x1,.slice x2 x3 x4] 49:Obj)
theorem Mx(p q:aj){cv dv:Value}{w:World}(U:ba w cv p.cs)(W:ba w dv q.cs) :
  Calls pg 47 #[cQ p cv,cQ q dv] w (uF (p=q) w):=by
 unfold cQ;obtain⟨B,c1,rfl,m1,U⟩:=U;obtain⟨a2,c2,rfl,m2,W⟩:=W;unfold maxLen at m1 m2;have H1:=qI U;have H2:=qI W;clear U W;have k1:Hu (p=q->p.nm=q.nm):=λe=>by rw[e]
 have k2:Hu (p=q->p.pr=q.pr):=λe=>by rw[e]
 have k3:Hu (p=q->p.cs=q.cs):=λe=>by rw[e]
 generalize (p=q)=u at *;obtain⟨s,t,b⟩:=p;obtain⟨qn,V,o⟩:=q;dsimp only at m1 m2 H1 H2 k1 k2 k3 ⊢
 by_cases e1:s=qn
 ·subst e1
  by_cases Y:t=V
  ·subst Y;have Hc:=qI (((Q0 w w).alloc (lR) (iZ s t B b.length c1)).alloc (by simp) (iZ s t a2 o.length c2))
   by_cases I:b.length=o.length
   ·rw[<- I] at Hc ⊢;have E3:=qI I;clear I
    go_enter func47,ntmps47
    have p2:((w.alloc (iZ s t B b.length c1)).alloc (iZ s t a2 b.length c2)).cell? ⟨w,2,none⟩=some (.slice B b.length c1):=by simp
    have q2:((w.alloc (iZ s t B b.length c1)).alloc (iZ s t a2 b.length c2)).cell? ⟨w.heap.size+1,2,none⟩=some (.slice a2 b.length c2):=by simp
    have Hv:((w.alloc (iZ s t B b.length c1)).alloc (iZ s t a2 b.length c2)).heap.size=w.heap.size+1+1:=by simp
    go_wp2
    generalize ((w.alloc (iZ s t B b.length c1)).alloc (iZ s t a2 b.length c2))=W0 at *
    go_loopw [5] (λi wr=>∃k:Nat,k<=b.length/\i=.int .i64 k/\Bw W0 wr) (λi _=>b.length - (intOf i).toNat)
    exact⟨0,by omega,rfl,Q0 _ _⟩
    ·obtain⟨k,hk,rfl,F⟩:=hrel;have r2:=(F.cell (p:=⟨w,2,none⟩) (by grind)).trans p2;have s2:=(F.cell (p:=⟨w.heap.size+1,2,none⟩) (by grind)).trans q2;have Ha:=Hc.t F;have Hi:=qI F;clear F
     by_cases D:k<b.length
     ·obtain⟨b1,o1,HN,rfl,Hh⟩:=H1.o (by omega);obtain⟨b2,H,HJ,rfl,Hg⟩:=H2.o (by rw[<- E3.o];omega);have Hq:k<o.length:=by rw[<- E3.o];exact D
      obtain⟨x0,x1,x2,x3,x4,x5⟩:=(Hh.below Ha).at D;obtain⟨S,X,Z,T,R,G⟩:=(Hg.below Ha).at Hq;obtain⟨E,nc,Hn,J,Ho⟩:=((Hh.below Ha).2 k D).2.parts;obtain⟨O,L,Hp,M,Hm⟩:=((Hg.below Ha).2 k Hq).2.parts;rw[Hn] at x5;rw[Hp] at G;have Hk:=qI (Hg.below Ha).1;have Hl:=qI Ho;have Hj:=qI Hm;have C:Hu (u->af b k=af o k):=λe=>by rw[k3.o e]
      clear Hh Hg Ho Hm Hn Hp p2 q2;unfold maxLen at J M;generalize af b k=c at *;generalize af o k=d at *;obtain⟨cn,g,f,l,n,a⟩:=c;obtain⟨dn,z,y,v,x,r⟩:=d;dsimp only at x0 x1 x2 x3 x4 x5 S X Z T R G J M Hl Hj;have j1:Hu (u->cn=dn):=λe=>by have h:=C.o e;injection h with h _
      have j2:Hu (u->g=z):=λe=>by have h:=C.o e;injection h with _ h
      have j3:Hu (u->f=y):=λe=>by have h:=C.o e;injection h with _ _ h
      have j4:Hu (u->l=v):=λe=>by have h:=C.o e;injection h with _ _ _ h
      have j5:Hu (u->n=x):=λe=>by have h:=C.o e;injection h with _ _ _ _ h
      have j6:Hu (u->a=r):=λe=>by have h:=C.o e;injection h
      have He:=qI (((Q0 wr wr).alloc (lR) (mC cn g f l n E a.length nc)).alloc (by simp) (mC dn z y v x O r.length L));clear C;have Hr:w+1<wr.heap.size:=Q1 (by omega) Hi.o.size;have Hb:=Hk.o;have A:=(Q0 wr wr).alloc (lR) (mC cn g f l n E a.length nc);have s2:=(A.cell (p:=⟨w.heap.size+1,2,none⟩) Hr).trans s2;have S:=(A.cell (p:=⟨b2,H+k*6,none⟩) Hb).trans S;have X:=(A.cell (p:=⟨b2,H+k*6+1,none⟩) Hb).trans X;have Z:=(A.cell (p:=⟨b2,H+k*6+2,none⟩) Hb).trans Z;have T:=(A.cell (p:=⟨b2,H+k*6+3,none⟩) Hb).trans T;have R:=(A.cell (p:=⟨b2,H+k*6+4,none⟩) Hb).trans R;have G:=(A.cell (p:=⟨b2,H+k*6+5,none⟩) Hb).trans G;clear A Hb
      by_cases f0:cn=dn
      ·subst f0
       by_cases f1:g=z
       ·subst f1
        by_cases f2:f=y
        ·subst f2
         by_cases f3:l=v
         ·subst f3
          by_cases f4:n=x
          ·subst f4
           by_cases P:a.length=r.length
           ·rw[<- P] at G He Hj;have F6:=qI P;clear P;have z5:((wr.alloc (mC cn g f l n E a.length nc)).alloc (mC cn g f l n O a.length L)).cell? ⟨wr,5,none⟩=some (.slice E a.length nc):=by simp
            have z6:((wr.alloc (mC cn g f l n E a.length nc)).alloc (mC cn g f l n O a.length L)).cell? ⟨wr.heap.size+1,5,none⟩=some (.slice O a.length L):=by simp
            go_wp2
            generalize ((wr.alloc (mC cn g f l n E a.length nc)).alloc (mC cn g f l n O a.length L))=W5 at *;clear x0 x1 x2 x3 x4 x5 S X Z T R G;have Hf:=Hi.t He
            go_loopw [8] (λi HA=>∃j m:Nat,j<=a.length/\i=.int .i64 j/\HA=W5.drewN m) (λi _=>a.length - (intOf i).toNat)
            exact⟨0,0,by omega,rfl,rfl⟩
            ·obtain⟨j,m,hj,rfl,rfl⟩:=hrel
             by_cases Q:j<a.length
             ·obtain⟨u1,v1,rfl,N,t1,t2⟩:=Hl.o j Q;obtain⟨u2,v2,rfl,K,t3,t4⟩:=Hj.o j Q;have t1:=(He.o.cell (p:=⟨u1,v1+j*2,none⟩) N).trans t1;have t2:=(He.o.cell (p:=⟨u1,v1+j*2+1,none⟩) N).trans t2;have t3:=(He.o.cell (p:=⟨u2,v2+j*2,none⟩) K).trans t3;have t4:=(He.o.cell (p:=⟨u2,v2+j*2+1,none⟩) K).trans t4;have l1:Hu (u->(ar a j).kind=(ar r j).kind):=λe=>by rw[j6.o e]
              have l2:Hu (u->(ar a j).many=(ar r j).many):=λe=>by rw[j6.o e]
              generalize (ar a j).kind=ki at *;generalize (ar r j).kind=kj at *;generalize (ar a j).many=mi at *;generalize (ar r j).many=mj at *
              by_cases g1:ki=kj
              ·subst g1
               by_cases g2:mi=mj
               ·subst g2
                go_wp2
                go_quiet (fail)
                go_wp2
                go_roundw
                exact⟨j+1,_,by omega,by go_num,rfl⟩
                simp[intOf];omega
               ·have G2:=qI g2;have HE:(mi == mj)=false:=by simpa using g2
                clear g2
                go_wp2
                go_quiet (fail)
                go_wp2
                go_ret;exact⟨_,rfl,λe=>absurd (l2.o e) G2,(Hc.o.trans (Hf.o.mono Hc.o.size)).trans ((CC).mono (Q5 Hc.o.size Hf.o.size))⟩
              ·have G1:=qI g1;have HM:(ki.toList == kj.toList)=false:=by rw[Qr];intro h;exact g1 (ByteArray.ext (by simp_all[Qs]))
               clear g1
               go_wp2
               go_quiet (fail)
               go_wp2
               go_ret;exact⟨_,rfl,λe=>absurd (l1.o e) G1,(Hc.o.trans (Hf.o.mono Hc.o.size)).trans ((CC).mono (Q5 Hc.o.size Hf.o.size))⟩
             ·have Hs:j=a.length:=by omega
              subst Hs
              go_wp2
              go_roundw
              exact⟨k+1,by omega,by go_num,Hf.o.trans ((pk).mono Hf.o.size)⟩
              simp[intOf];omega
           ·have HG:((a.length:Int) == (r.length:Int))=false:=by simp;omega
            have F6:=qI P;clear P
            go_wp2
            go_ret;exact⟨_,rfl,λe=>absurd (congrArg List.length (j6.o e)) F6,Ha.o.trans (He.o.mono Ha.o.size)⟩
          ·have F4:=qI f4;have HB:(n == x)=false:=by simpa using F4.o
           clear f4
           go_wp2
           go_ret;exact⟨_,rfl,λe=>absurd (j5.o e) F4,Ha.o.trans (He.o.mono Ha.o.size)⟩
         ·have F3:=qI f3;have HC:(l == v)=false:=by simpa using F3.o
          clear f3
          go_wp2
          go_ret;exact⟨_,rfl,λe=>absurd (j4.o e) F3,Ha.o.trans (He.o.mono Ha.o.size)⟩
        ·have F2:=qI f2;have HH:(f == y)=false:=by simpa using F2.o
         clear f2
         go_wp2
         go_ret;exact⟨_,rfl,λe=>absurd (j3.o e) F2,Ha.o.trans (He.o.mono Ha.o.size)⟩
       ·have F1:=qI f1;have HD:(g == z)=false:=by simpa using F1.o
        clear f1
        go_wp2
        go_ret;exact⟨_,rfl,λe=>absurd (j2.o e) F1,Ha.o.trans (He.o.mono Ha.o.size)⟩
      ·have F0:=qI f0;have HL:(cn.toList == dn.toList)=false:=by grind[ByteArray.ext,Qs,Array.toList_inj]
       clear f0
       go_wp2
       go_ret;exact⟨_,rfl,λe=>absurd (j1.o e) F0,Ha.o.trans (He.o.mono Ha.o.size)⟩
     ·have Ht:k=b.length:=by omega
      subst Ht
      go_wp2
      go_ret;exact⟨_,rfl,λ_=>rfl,Ha⟩
   ·have F:((b.length:Int) == (o.length:Int))=false:=by simp;omega
    go_enter func47,ntmps47
    have E3:=qI I;clear I
    go_wp2
    go_ret;exact⟨_,rfl,λe=>absurd (congrArg List.length (k3.o e)) E3,Hc⟩
  ·have E2:=qI Y;have HI:(t == V)=false:=by simpa using Y
   clear Y;have Hc:=qI (((Q0 w w).alloc (lR) (iZ s t B b.length c1)).alloc (by simp) (iZ s V a2 o.length c2))
   go_enter func47,ntmps47
   go_wp2
   go_ret;exact⟨_,rfl,λe=>absurd (k2.o e) E2,Hc⟩
 ·have E1:=qI e1;have HF:(s.toList == qn.toList)=false:=by grind[ByteArray.ext,Qs,Array.toList_inj]
  clear e1;have Hc:=qI (((Q0 w w).alloc (lR) (iZ s t B b.length c1)).alloc (by simp) (iZ qn V a2 o.length c2))
  go_enter func47,ntmps47
  go_wp2
  go_ret;exact⟨_,rfl,λe=>absurd (k1.o e) E1,Hc⟩
theorem nH.atE{b o:Nat}{hs:List ae}{cv a:Nat->Value}(h:nH w b o hs cv a){k:Nat}(c:k<hs.length):w.cell? ⟨b,o+k*4,none⟩=some (.string (ah hs k).pod.nm)/\w.cell? ⟨b,o+k*4+1,none⟩=some (.int .i64 (ah hs k).pod.pr)/\w.cell? ⟨b,o+k*4+2,none⟩=some (cv k)/\w.cell? ⟨b,o+k*4+3,none⟩=some (a k):=(h.2 k c).1
theorem ce.parts{v:Value}{gs:List aX}(h:ce w v gs):∃a c,v=.slice a gs.length c/\(gs.length<=c/\c<=maxLen)/\∀k,k<gs.length->∃b o dv,a=some ⟨b,o,none⟩/\b<w.heap.size/\w.cell? ⟨b,o+k*2,none⟩=some (.int .u64 (aG gs k).cp)/\w.cell? ⟨b,o+k*2+1,none⟩=some dv/\bK w dv (aG gs k).dv:=by
 obtain⟨a,c,rfl,i,g⟩:=h;refine⟨a,c,rfl,i,λk e=>?_⟩;obtain⟨b,o,dv,f,Ha,d⟩:=g (by omega);exact⟨b,o,dv k,f,Ha,(d k e).1.1,(d k e).1.2.1,(d k e).2⟩
abbrev jU:=λ(x0:Int) (x1:Option Addr) (x2 x3:Nat)=>(.cells #[.int .u64 x0,.slice x1 x2 x3] 123:Obj)
theorem CD{A v2:Value}{hs gs:List ae}{w:World}(U:bf w A hs)(V:bf w v2 gs) :
  Calls pg 18 #[A,v2] w (uF (hs=gs) w):=by
 obtain⟨a1,c1,rfl,m1,U⟩:=U;obtain⟨a2,c2,rfl,m2,V⟩:=V;unfold maxLen at m1 m2;have H1:=qI U;have H2:=qI V;clear U V;have k1:Hu (hs=gs->hs.length=gs.length):=λe=>by rw[e]
 have k2:Hu (∀k,hs=gs->ah hs k=ah gs k):=λk e=>by rw[e]
 generalize (hs=gs)=R at *
 by_cases E:hs.length=gs.length
 ·rw[<- E];have X:=qI E;clear E
  go_enter func18,ntmps18
  go_wp2
  go_loopw [5] (λi wr=>∃k:Nat,k<=hs.length/\i=.int .i64 k/\Bw w wr) (λi _=>hs.length - (intOf i).toNat)
  exact⟨0,by omega,rfl,Q0 _ _⟩
  ·obtain⟨k,hk,rfl,q⟩:=hrel;have Hc:=qI q;clear q
   by_cases v:k<hs.length
   ·obtain⟨b1,d,L,HW,rfl,Hn⟩:=H1.o (by omega);obtain⟨b2,c,C,HV,rfl,Hl⟩:=H2.o (by rw[<- X.o];omega);have HO:k<gs.length:=by rw[<- X.o];exact v
    have Hr:=((Hn.below Hc).2 k v).2;have Hp:=((Hl.below Hc).2 k HO).2;have Hj:=qI (Hn.below Hc).1;have Hg:=qI (Hl.below Hc).1;have Hb:=qI (show (wr.drew.cell? ⟨b1,d+k*4,none⟩=some (.string (ah hs k).pod.nm)/\wr.drew.cell? ⟨b1,d+k*4+1,none⟩=some (.int .i64 (ah hs k).pod.pr)/\wr.drew.cell? ⟨b1,d+k*4+2,none⟩=some (L k)/\wr.drew.cell? ⟨b1,d+k*4+3,none⟩=some (HW k))/\(wr.drew.cell? ⟨b2,c+k*4,none⟩=some (.string (ah gs k).pod.nm)/\wr.drew.cell? ⟨b2,c+k*4+1,none⟩=some (.int .i64 (ah gs k).pod.pr)/\wr.drew.cell? ⟨b2,c+k*4+2,none⟩=some (C k)/\wr.drew.cell? ⟨b2,c+k*4+3,none⟩=some (HV k)) from⟨(Hn.below Hc).atE v,(Hl.below Hc).atE HO⟩);have HK:=qI (k2.o k);have HL:Bw wr wr.drew:=⟨rfl,rfl,rfl,lR,λ_ _=>rfl⟩;have Hh:=qI (Mx (ah hs k).pod (ah gs k).pod (Hr.1.below HL) (Hp.1.below HL));unfold cQ at Hh;obtain⟨B,F,Hw,_,_⟩:=Hr.1;obtain⟨N,I,Hx,_,_⟩:=Hp.1;obtain⟨H,O,HG,J,HP⟩:=Hr.2.parts;obtain⟨D,G,HD,u,HA⟩:=Hp.2.parts;have Hy:=qI HP;have Hz:=qI HA;unfold maxLen at J u;clear Hr Hp Hn Hl HP HA H1 H2;rw[Hw,HG,Hx,HD] at Hb;rw[Hw,Hx] at Hh;clear Hw Hx HG HD;generalize ah hs k=x at *;generalize ah gs k=y at *;obtain⟨⟨xn,xp,xc⟩,n⟩:=x;obtain⟨⟨yn,yp,yc⟩,r⟩:=y;dsimp only at Hb Hh Hy Hz J u
    go_wp2
    refine wp_region_held_drew (S:=(λw'=>(w'.cell? ⟨b1,d+k*4,none⟩=some (.string xn)/\w'.cell? ⟨b1,d+k*4+1,none⟩=some (.int .i64 xp)/\w'.cell? ⟨b1,d+k*4+2,none⟩=some (.slice B xc.length F)/\w'.cell? ⟨b1,d+k*4+3,none⟩=some (.slice H n.length O))/\(w'.cell? ⟨b2,c+k*4,none⟩=some (.string yn)/\w'.cell? ⟨b2,c+k*4+1,none⟩=some (.int .i64 yp)/\w'.cell? ⟨b2,c+k*4+2,none⟩=some (.slice N yc.length I)/\w'.cell? ⟨b2,c+k*4+3,none⟩=some (.slice D r.length G)))) (by kernel_rfl) Hb λhQ=>?_;refine tk 0 ?_;refine tk 1 ?_;refine tk 2 ?_;refine tk 3 ?_;refine tk 4 ?_;refine tk 5 ?_;refine tk 6 ?_;refine tk 7 ?_;refine tk 8 ?_;refine tk 9 ?_;refine rd 10 λK hK=>?_;go_simp
    go_wp2
    refine Hh.o.mono ?_;rintro e o ⟨sb,rfl,HM,Ha⟩;have Hf:=Hc.t (show Bw wr o from⟨Ha.os,Ha.tape,Ha.output,Ha.size,Ha.block⟩);have Hk:=qI (show Bw wr o from⟨Ha.os,Ha.tape,Ha.output,Ha.size,Ha.block⟩);have HC:=qI HM;have Hv:=qI (show (o.cell? ⟨b1,d+k*4,none⟩=some (.string xn)/\o.cell? ⟨b1,d+k*4+1,none⟩=some (.int .i64 xp)/\o.cell? ⟨b1,d+k*4+2,none⟩=some (.slice B xc.length F)/\o.cell? ⟨b1,d+k*4+3,none⟩=some (.slice H n.length O))/\(o.cell? ⟨b2,c+k*4,none⟩=some (.string yn)/\o.cell? ⟨b2,c+k*4+1,none⟩=some (.int .i64 yp)/\o.cell? ⟨b2,c+k*4+2,none⟩=some (.slice N yc.length I)/\o.cell? ⟨b2,c+k*4+3,none⟩=some (.slice D r.length G)) from⟨⟨(Ha.cell (p:=⟨b1,d+k*4,none⟩) Hj).trans Hb.o.1.1,(Ha.cell (p:=⟨b1,d+k*4+1,none⟩) Hj).trans Hb.o.1.2.1,(Ha.cell (p:=⟨b1,d+k*4+2,none⟩) Hj).trans Hb.o.1.2.2.1,(Ha.cell (p:=⟨b1,d+k*4+3,none⟩) Hj).trans Hb.o.1.2.2.2⟩,⟨(Ha.cell (p:=⟨b2,c+k*4,none⟩) Hg).trans Hb.o.2.1,(Ha.cell (p:=⟨b2,c+k*4+1,none⟩) Hg).trans Hb.o.2.2.1,(Ha.cell (p:=⟨b2,c+k*4+2,none⟩) Hg).trans Hb.o.2.2.2.1,(Ha.cell (p:=⟨b2,c+k*4+3,none⟩) Hg).trans Hb.o.2.2.2.2⟩⟩);clear Ha HM
    go_wp2
    refine hK.k Hv λhQ=>?_;refine tk 11 ?_;refine Qn (by kernel_rfl) ?_ _;clear hQ Hh Hb;have r3:=Hv.o.1.2.2.2;have s3:=Hv.o.2.2.2.2;have KP:Hu (R->(⟨xn,xp,xc⟩:aj)=⟨yn,yp,yc⟩):=λe=>by have h:=HK.o e;injection h
    have Z:Hu (R->n=r):=λe=>by have h:=HK.o e;injection h
    clear HK;cases sb with
    | false=>
     go_wp2
     go_quiet (fail)
     go_wp2
     go_ret;exact⟨_,rfl,λe=>absurd (HC.o (KP.o e)) (by decide),Hf.o.trans ((pk).mono Hf.o.size)⟩
    | true=>
     clear HC KP
     by_cases P:n.length=r.length
     ·rw[<- P] at s3;have E2:=qI P;clear P u
      go_wp2
      go_quiet (fail)
      go_wp2
      go_loopw [7] (λi wq=>∃j:Nat,j<=n.length/\i=.int .i64 j/\Bw o wq) (λi _=>n.length - (intOf i).toNat)
      exact⟨0,by omega,rfl,pk⟩
      ·obtain⟨j,hj,rfl,q⟩:=hrel;have HR:=Q1 Hj Hk.o.size;have HI:=Q1 Hg Hk.o.size;have r4:=(q.cell (p:=⟨b1,d+k*4+3,none⟩) HR).trans r3;have s4:=(q.cell (p:=⟨b2,c+k*4+3,none⟩) HI).trans s3;have Ht:=Hf.t q;have He:=Hk.t q;have Hs:=qI q;clear q
       by_cases M:j<n.length
       ·obtain⟨u1,A,H0,rfl,HN,x0,x1,HH⟩:=Hy.o j M;obtain⟨Y,v2,HZ,rfl,Ho,T,W,HB⟩:=Hz.o j (by rw[<- E2.o];exact M);have x0:=(He.o.cell (p:=⟨u1,A+j*2,none⟩) HN).trans x0;have x1:=(He.o.cell (p:=⟨u1,A+j*2+1,none⟩) HN).trans x1;have T:=(He.o.cell (p:=⟨Y,v2+j*2,none⟩) Ho).trans T;have W:=(He.o.cell (p:=⟨Y,v2+j*2+1,none⟩) Ho).trans W;have j1:Hu (R->(aG n j).cp=(aG r j).cp):=λe=>by rw[Z.o e]
        have j2:Hu (R->(aG n j).dv=(aG r j).dv):=λe=>by rw[Z.o e]
        have HQ:=qI (HH.below He);have HF:=qI (HB.below He);obtain⟨g,l,rfl,_,_⟩:=HH;obtain⟨f,m,rfl,_,_⟩:=HB;generalize (aG n j).cp=b at *;generalize (aG r j).cp=a at *;generalize (aG n j).dv=t at *;generalize (aG r j).dv=s at *;have z:=(Q0 wr wr).alloc (lR) (jU b g t.length l);have s4:=(z.cell (p:=⟨b2,c+k*4+3,none⟩) (Q1 HI Hs.o.size)).trans s4;have T:=(z.cell (p:=⟨Y,v2+j*2,none⟩) (Q1 Ho He.o.size)).trans T;have W:=(z.cell (p:=⟨Y,v2+j*2+1,none⟩) (Q1 Ho He.o.size)).trans W;have Hm:=qI (z.alloc z.size (jU a f s.length m));have HE:=qI (L7 (HQ.o.below Hm) (HF.o.below Hm));have Hq:=Ht.t Hm;have Hi:=Hs.t Hm;have z0:((wr.alloc (jU b g t.length l)).alloc (jU a f s.length m)).cell? wr=some (.int .u64 b):=by simp
        have z1:((wr.alloc (jU b g t.length l)).alloc (jU a f s.length m)).cell? ⟨wr,1,none⟩=some (.slice g t.length l):=by simp
        have z2:((wr.alloc (jU b g t.length l)).alloc (jU a f s.length m)).cell? (wr.heap.size+1:Nat)=some (.int .u64 a):=by simp
        have z3:((wr.alloc (jU b g t.length l)).alloc (jU a f s.length m)).cell? ⟨wr.heap.size+1,1,none⟩=some (.slice f s.length m):=by simp
        clear z HQ HF Hy Hz
        go_wp2
        generalize ((wr.alloc (jU b g t.length l)).alloc (jU a f s.length m))=W6 at *;refine HE.o.mono ?_;rintro e w7 ⟨db,rfl,HJ,n7,rfl⟩;have HT:=qI HJ;clear HJ HE
        by_cases Q:b=a
        ·subst Q;cases db with
         | true=>
          go_wp2
          go_roundw
          exact⟨j+1,by omega,by go_num,Hi.o.trans ((pk).mono Hi.o.size)⟩
          simp[intOf];omega
         | false=>
          go_wp2
          go_ret;exact⟨_,rfl,λe=>absurd (HT.o (j2.o e)) (by decide),Hq.o.trans ((pk).mono Hq.o.size)⟩
        ·have H3:((b:Int) == (a:Int))=false:=by simp;omega
         have HX:(b == a)=false:=by simpa using Q
         have H4:¬ ((b:Int)=(a:Int)):=by omega
         have E3:=qI Q;clear Q
         go_wp2
         go_ret;exact⟨_,rfl,λe=>absurd (j1.o e) E3,Hq.o.trans ((pk).mono Hq.o.size)⟩
       ·have HS:j=n.length:=by omega
        subst HS
        go_wp2
        go_roundw
        exact⟨k+1,by omega,by go_num,Ht⟩
        simp[intOf];omega
     ·have HY:((n.length:Int) == (r.length:Int))=false:=by simp;omega
      have E2:=qI P;clear P
      go_wp2
      go_quiet (fail)
      go_wp2
      go_ret;exact⟨_,rfl,λe=>absurd (congrArg List.length (Z.o e)) E2,Hf.o.trans ((pk).mono Hf.o.size)⟩
   ·have HU:k=hs.length:=by omega
    subst HU
    go_wp2
    go_ret;exact⟨_,rfl,λ_=>rfl,Hc⟩
 ·have q:((hs.length:Int) == (gs.length:Int))=false:=by simp;omega
  have X:=qI E;clear E
  go_enter func18,ntmps18
  go_wp2
  go_ret;exact⟨_,rfl,λe=>absurd (k1.o e) X,Q0 _ _⟩
