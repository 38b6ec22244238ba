import Derived.Test.YtbmmnflgnmjboaaGreatDoorK23
import Derived.Test.YtbmmnflgnmjboaaGreatDoorK12
import Derived.Test.YtbmmnflgnmjboaaGreatDoorK13
import Derived.Test.YtbmmnflgnmjboaaGreatDoorK16
set_option maxRecDepth 100000
set_option maxHeartbeats 16000000
namespace Go.Proofs.YtbmmnflgnmjboaaGreatDoor
section
open RowKit Shelf
open Ost (Cpu N4 Wi Hi wi0 told Sm Low ae)
open Qos (Nd nd)
open Dvs (Dv dv fits bD cn)
theorem I5 (A:Nat) (l:List Cpu) (x:Nat):∀ k,bi A l (x:Int) k=((List.range k).filter λi=>A.testBit i && decide ((l.getD i ae).node=(x:Int))).length:=by
 intro k
 induction k with
 | zero=>rfl
 | succ k ih=>
  rw [List.range_succ,List.filter_append,Q2,<- ih,bi]
  by_cases h:(A.testBit k && decide ((l.getD k ae).node=(x:Int)))=true
  ·rw [if_pos h,List.filter_cons_of_pos (p:=λi=>A.testBit i && decide ((l.getD i ae).node=(x:Int))) h];rfl
  ·rw [if_neg h,List.filter_cons_of_neg (p:=λi=>A.testBit i && decide ((l.getD i ae).node=(x:Int))) h];rfl
theorem wy (A:Nat) (l:List Cpu):jN A l l.length=v4 (Ol.bv A l):=by
 have e:∀ x:Nat,bi A l (x:Int) l.length=Ol.onNode A l x:=λx=>I5 A l x l.length
 have e0:=e 0;have e1:=e 1;have e2:=e 2;have e3:=e 3;unfold jN Ol.bv;rw [<- e0,<- e1,<- e2,<- e3];rfl
theorem m7 (A:Nat) (l:List Cpu) (x:Nat):Ol.onNode A l x<=l.length:=by
 unfold Ol.onNode;exact Q5 (List.length_filter_le _ _) (by simp)
theorem wA {a b c d:Nat} (ha:a<=64) (hb:b<=64) (hc:c<=64) (hd:d<=64):Sm ⟨a,b,c,d⟩:=by
 intro k
 match k with
 | 0=>show -1000000<=(a:Int)/\(a:Int)<=1000000;omega
 | 1=>show -1000000<=(b:Int)/\(b:Int)<=1000000;omega
 | 2=>show -1000000<=(c:Int)/\(c:Int)<=1000000;omega
 | k+3=>show -1000000<=(d:Int)/\(d:Int)<=1000000;omega
theorem wB (A:Nat) {l:List Cpu} (h:l.length<=64):Sm (Ol.bv A l):=
 wA (Q5 (m7 A l 0) h) (Q5 (m7 A l 1) h) (Q5 (m7 A l 2) h) (Q5 (m7 A l 3) h)
theorem m8 (p:Nat->Bool) (ds:List Dv) (x:Nat):∀ k,cn p ds x k<=k:=by
 intro k;unfold cn Dvs.sel;exact Q5 (List.length_filter_le _ _) (by simp)
theorem wD (p:Nat->Bool) {ds:List Dv} (h:ds.length<=16):Sm (Ol.ip p ds):=
 wA (Q5 (m8 _ _ _ _) (by omega)) (Q5 (m8 _ _ _ _) (by omega)) (Q5 (m8 _ _ _ _) (by omega)) (Q5 (m8 _ _ _ _) (by omega))
theorem I6 {w:World} {v:Value} {l:List Hi} (h:bo w v l):∃ ao c,v=.slice ao l.length c:=by
 rcases h with ⟨rfl,ao,c,rfl⟩|⟨b,o,c,rfl,_⟩
 ·exact ⟨ao,c,rfl⟩
 ·exact ⟨_,c,rfl⟩
theorem wE (free all:N4) (nd:Nat) (many:Int) (w:World) (hn:nd<256) (hf:Sm free) (ha:Sm all) :
  Calls Tryz.prog 162 #[v4 free,v4 all,.int .u8 nd,.int .i64 many] w λe w'=>∃ ao c,e=.returned (.agg #[.bool (Ol.bY free all nd many).any,.slice ao (Ol.bY free all nd many).hs.length c])/\bo w' (.slice ao (Ol.bY free all nd many).hs.length c) (Ol.bY free all nd many).hs/\(∀ b o,ao=some ⟨b,o,none⟩->w.heap.size<=b)/\Below w.heap.size w w':=by
 unfold Ol.bY
 by_cases h:many<=0
 ·rw [if_pos h];refine (zG free all nd many w h).mono ?_;rintro e w' ⟨rfl,hb⟩;exact ⟨none,0,rfl,.inl ⟨rfl,none,0,rfl⟩,(λ_ _ h=>nomatch h),hb⟩
 ·rw [if_neg h];refine (I4 free all nd many w (by omega) hn hf ha).mono ?_;rintro e w' ⟨v,rfl,hh,hf2,hb⟩;obtain ⟨ao,c,rfl⟩:=I6 hh;exact ⟨ao,c,rfl,hh,λb o h=>hf2 b o _ _ (by rw [h]),hb⟩
theorem wF (free all:N4) (nd:Nat) (many:Int):Low (Ol.bY free all nd many).hs/\(Ol.bY free all nd many).hs.length<=16:=by
 unfold Ol.bY
 by_cases h:many<=0
 ·rw [if_pos h];exact ⟨λx hx=>(List.not_mem_nil hx).elim,Nat.zero_le _⟩
 ·rw [if_neg h];refine ⟨λx hx=>?_,Ost.yB _ _ _ _⟩;obtain ⟨m,g⟩:=x
  have:=Ost.yA hx
  exact Nat.lt_trans this.2.1 (by decide)
theorem I7 (m:Ol.Mc) (s:Ol.Sk) (own:Int) (ns:List Nd):n9 (Ol.ce m s own ns):=by
 intro y hy;unfold Ol.ce at hy
 rcases List.mem_cons.1 hy with rfl|hy
 ·exact wF _ _ _ _
 ·obtain ⟨n,_,rfl⟩:=Qk.1 hy;exact wF _ _ _ _
theorem I8 (m:Ol.Mc) (s:Ol.Sk) (own:Int) (ns:List Nd):(Ol.ce m s own ns).length=ns.length+1:=by
 unfold Ol.ce;simp
theorem I9 (m:Ol.Mc) (s:Ol.Sk) (own:Int) (ns:List Nd) (v:Value) (w:World) (hv:fA w v (Ol.ce m s own ns)) (hl:ns.length<=3) (hn:1<=m.nd/\m.nd<=15) (hp:0<=m.pol/\m.pol<=3) :
  Calls Tryz.prog 126 #[.int .i64 m.pol,.int .u8 m.nd,v] w λe w'=>e=.returned (.tuple #[vH (Ol.place m (Ol.ce m s own ns)).1,.bool (Ol.place m (Ol.ce m s own ns)).2,.nilIface])/\Below w.heap.size w w':=by
 unfold Ol.place;have hlen:=I8 m s own ns
 by_cases h0:m.pol=0
 ·rw [if_pos h0,h0];obtain ⟨ao,c,rfl,_⟩:=hv.form;exact Aa m.nd ao _ c w hn (by omega)
 ·rw [if_neg h0];exact Ab m.pol m.nd v (Ol.ce m s own ns) w hv (I7 m s own ns) (by omega) hn (by omega)
end
section
open RowKit Shelf
open Ost (Cpu N4 Wi Hi wi0 told Sm Low ae)
open Qos (Nd nd)
open Dvs (Dv dv fits bD cn aT)
attribute [local go_sem] Oper.semAt_some
theorem bo.le {W W':World} {v:Value} {l:List Hi} (h:bo W v l) (k:aB W W'):bo W' v l:=by
 rcases h with h|⟨b,o,c,hv,hlt,hc⟩
 ·exact .inl h
 ·exact .inr ⟨b,o,c,hv,Q1 hlt k.size,λj hj=>⟨k.cell _ _ _ (hc j hj).1,k.cell _ _ _ (hc j hj).2⟩⟩
theorem Ja {W:World} {ao:Option Addr} {n c g:Nat} {l:List Hi} (h:bo W (.slice ao n c) l) (hg:∀ b o,ao=some ⟨b,o,none⟩->b≠g):bo (ag (λb=>b=g) W) (.slice ao n c) l:=by
 rcases h with h|⟨b,o,c',hv,hlt,hc⟩
 ·exact .inl h
 ·refine .inr ⟨b,o,c',hv,by rw [bw];exact hlt,λj hj=>?_⟩;injection hv with hv
  have hb:=hg b o hv;have e:∀ k,(ag (λb=>b=g) W).cell? ⟨b,k,none⟩=W.cell? ⟨b,k,none⟩:=λk=>World.cell?_of_block (a:=⟨b,k,none⟩) (bH hb)
  rw [e,e];exact hc j hj
def eh (x:Wi × Value):List Value:=[.bool x.1.any,x.2]
def wl (m:Ol.Mc) (s:Ol.Sk) (own:Int) (ns:List Nd) (k:Nat):List Wi:=Ol.ce m s own (ns.take k)
theorem Jb (m:Ol.Mc) (s:Ol.Sk) (own:Int) {ns:List Nd} {k:Nat} (h:k<ns.length):wl m s own ns (k+1)=wl m s own ns k++[Ol.bY (Ol.ip (fits s.ds s.us (nd ns k).kind) s.ds) (Ol.ip (bD s.ds (nd ns k).kind) s.ds) m.nd (nd ns k).many]:=by
 unfold wl Ol.ce;rw [Qa h,Qj,List.cons_append]
 simp [nd,h]
theorem Jc:(Tryz.prog.info? 270).map (λi=>(i.zero,i.size,i.bytes))=some (some (.agg #[.bool false,.slice none 0 0]),2,32):=by kernel_rfl
theorem Jd (w:World) (x:Wi × Value) (t:TypeId):∀ j u,(eh x)[j]?=some u->(w.alloc (.cells #[.bool x.1.any,x.2] t)).cell? ((⟨w.heap.size,0,none⟩:Addr).add j)=some u:=by
 intro j u hu;rw [Addr.add_lit,Qd]
 match j,hu with
 | 0,hu=>simp [eh] at hu;subst hu;simp
 | 1,hu=>simp [eh] at hu;subst hu;simp
 | n+2,hu=>simp [eh] at hu
theorem Je (y:Wi) (a:Option Addr) (n c:Nat):∀ u∈eh (y,.slice a n c),u.oneCell'=true:=by
 intro u hu
 simp [eh] at hu
 rcases hu with rfl|rfl <;> rfl
theorem Jf {W W':World} {base:Nat} {e:TypeId} {sz g n cap:Nat} {xs:List Value} (h:W.ownsRow base e sz (.slice (some ⟨g,0,none⟩) n cap) n xs) (hb:W'.heap[g]?=W.heap[g]?):W'.ownsRow base e sz (.slice (some ⟨g,0,none⟩) n cap) n xs:=by
 obtain ⟨h1,h2|⟨g2,c2,cur,hv,r1,r2,r3⟩⟩:=h
 ·exact ⟨h1,.inl h2⟩
 ·injection hv with e1 e2 e3
  injection e1 with e1
  injection e1 with e1
  subst e1;exact ⟨h1,.inr ⟨g,c2,cur,by rw [e3],r1,hb.trans r2,r3⟩⟩
theorem Jg {W:World} {base g cap:Nat} {l:List (Wi × Value)} (h:W.ownsRow base 270 2 (.slice (some ⟨g,0,none⟩) l.length cap) l.length (l.flatMap eh)) (hh:∀ x∈l,bo W x.2 x.1.hs):fA W (.slice (some ⟨g,0,none⟩) l.length cap) (l.map Prod.fst):=by
 refine .inr ⟨g,0,cap,by rw [Q9],(h.lt g rfl).2,λk hk=>?_⟩;rw [Q9] at hk;have e:(l.map Prod.fst).getD k wi0=l[k].1:=by simp [hk]
 have key:∀ (l:List (Wi × Value)) (k:Nat) (hk:k<l.length) (j:Nat),j<2->(l.flatMap eh)[k*2+j]?=(eh l[k])[j]?:=by
  intro l
  induction l with
  | nil=>intro k hk;simp at hk
  | cons a l ih=>
   intro k hk j hj;rw [List.flatMap_cons];cases k with
   | zero=>rw [List.getElem?_append_left (by simp [eh];omega)];simp
   | succ k=>
    rw [List.getElem?_append_right (by simp [eh];omega)]
    have:=ih k (by simpa using hk) j hj
    simp only [List.getElem_cons_succ];rw [<- this]
    congr 1
    simp [eh]
    omega
 have k0:=key l k hk 0 (by decide);have k1:=key l k hk 1 (by decide);rw [e,Qd];refine ⟨?_,l[k].2,?_,hh _ (List.getElem_mem hk)⟩
 ·rw [h.cellAt (k*2) (by omega)];exact k0
 ·rw [h.cellAt (k*2+1) (by omega)];exact k1
structure cI (w:World) (tb b o c:Nat) (m:Ol.Mc):Prop where
 topo:aZ w tb b o c m.l
 good:Good m.l
 op:m.op<18446744073709551616
 nd:1<=m.nd/\m.nd<=15
 pol:0<=m.pol/\m.pol<=3
theorem cI.below {w w':World} {tb b o c:Nat} {m:Ol.Mc} (h:cI w tb b o c m) (hb:Below w.heap.size w w'):cI w' tb b o c m:=⟨h.topo.below hb,h.good,h.op,h.nd,h.pol⟩
structure de (w:World) (pb db:Nat) (ao:Option Addr) (c:Nat) (s:Ol.Sk):Prop where
 pool:ap w pb db ao c s.ds s.us
 nodes:aT s.ds
 cp:s.cp<18446744073709551616
theorem de.below {w w':World} {pb db:Nat} {ao:Option Addr} {c:Nat} {s:Ol.Sk} (h:de w pb db ao c s) (hb:Below w.heap.size w w'):de w' pb db ao c s:=⟨h.pool.below hb,h.nodes,h.cp⟩
def mV (m:Ol.Mc) (tb:Nat):Value:=.agg #[.pointer (some ⟨tb,0,none⟩),.int .u64 m.op,.int .u8 m.nd,.int .i64 m.nb,.int .i64 m.pol]
def sV (s:Ol.Sk) (pb:Nat):Value:=.agg #[.int .u64 s.cp,.pointer (some ⟨pb,0,none⟩)]
abbrev Jh:=λ(B tb:Nat) (m:Ol.Mc) (s:Ol.Sk) (w':World)=>w'.cell? ⟨B,0,none⟩=some (.pointer (some ⟨tb,0,none⟩))/\w'.cell? ⟨B,1,none⟩=some (.int .u64 m.op)/\w'.cell? ⟨B,2,none⟩=some (.int .u8 m.nd)/\w'.cell? ⟨B+1,0,none⟩=some (.int .u64 s.cp)
theorem wG (m:Ol.Mc) (s:Ol.Sk) (tb b o c pb db:Nat) (ao:Option Addr) (pc:Nat) (own:Int) (v:Value) (ns:List Nd) (w:World) (hm:cI w tb b o c m) (hs:de w pb db ao pc s) (hv:bc w v ns) (hl:ns.length<=100) :
  Calls Tryz.prog 127 #[mV m tb,sV s pb,.int .i64 own,v] w λe w'=>∃ v',e=.returned v'/\fA w' v' (Ol.ce m s own ns)/\Below w.heap.size w w':=by
 obtain ⟨i0,hi,hz0,hz1,hz2⟩:=info_parts Jc;unfold mV sV;have HM:=qI hm;have HSK:=qI hs;obtain ⟨na,nc,rfl,hnm,hnr⟩:=hv;unfold maxLen at hnm;have HNR:=qI hnr;have hnd:=hm.nd;have sz:((w.alloc (.cells #[.pointer (some ⟨tb,0,none⟩),.int .u64 m.op,.int .u8 m.nd,.int .i64 m.nb,.int .i64 m.pol] 95)).alloc (.cells #[.int .u64 s.cp,.pointer (some ⟨pb,0,none⟩)] 98)).heap.size=w.heap.size+2:=by simp
 have HU1:=qI (aG (w.alloc (.cells #[.pointer (some ⟨tb,0,none⟩),.int .u64 m.op,.int .u8 m.nd,.int .i64 m.nb,.int .i64 m.pol] 95)) (.cells #[.int .u64 s.cp,.pointer (some ⟨pb,0,none⟩)] 98) (n:=w.heap.size+1) (by simp));have HU0:=qI (bx (aG w (.cells #[.pointer (some ⟨tb,0,none⟩),.int .u64 m.op,.int .u8 m.nd,.int .i64 m.nb,.int .i64 m.pol] 95) rfl) (.cells #[.int .u64 s.cp,.pointer (some ⟨pb,0,none⟩)] 98));have HBU:=qI (((Q0 w.heap.size w).alloc (lR) (.cells #[.pointer (some ⟨tb,0,none⟩),.int .u64 m.op,.int .u8 m.nd,.int .i64 m.nb,.int .i64 m.pol] 95)).alloc (by simp) (.cells #[.int .u64 s.cp,.pointer (some ⟨pb,0,none⟩)] 98));have q0:((w.alloc (.cells #[.pointer (some ⟨tb,0,none⟩),.int .u64 m.op,.int .u8 m.nd,.int .i64 m.nb,.int .i64 m.pol] 95)).alloc (.cells #[.int .u64 s.cp,.pointer (some ⟨pb,0,none⟩)] 98)).cell? ⟨w.heap.size,0,none⟩=some (.pointer (some ⟨tb,0,none⟩)):=ad HU0.out 0;have q1:((w.alloc (.cells #[.pointer (some ⟨tb,0,none⟩),.int .u64 m.op,.int .u8 m.nd,.int .i64 m.nb,.int .i64 m.pol] 95)).alloc (.cells #[.int .u64 s.cp,.pointer (some ⟨pb,0,none⟩)] 98)).cell? ⟨w.heap.size,1,none⟩=some (.int .u64 m.op):=ad HU0.out 1;have q2:((w.alloc (.cells #[.pointer (some ⟨tb,0,none⟩),.int .u64 m.op,.int .u8 m.nd,.int .i64 m.nb,.int .i64 m.pol] 95)).alloc (.cells #[.int .u64 s.cp,.pointer (some ⟨pb,0,none⟩)] 98)).cell? ⟨w.heap.size,2,none⟩=some (.int .u8 m.nd):=ad HU0.out 2;have q3:((w.alloc (.cells #[.pointer (some ⟨tb,0,none⟩),.int .u64 m.op,.int .u8 m.nd,.int .i64 m.nb,.int .i64 m.pol] 95)).alloc (.cells #[.int .u64 s.cp,.pointer (some ⟨pb,0,none⟩)] 98)).cell? ⟨w.heap.size+1,0,none⟩=some (.int .u64 s.cp):=ad HU1.out 0;clear hm hs hnr
 go_enter Tryz.func127,Tryz.ntmps127
 go_wp2_with fail
 generalize ((w.alloc (.cells #[.pointer (some ⟨tb,0,none⟩),.int .u64 m.op,.int .u8 m.nd,.int .i64 m.nb,.int .i64 m.pol] 95)).alloc (.cells #[.int .u64 s.cp,.pointer (some ⟨pb,0,none⟩)] 98))=U at *;generalize hB:w.heap.size=B at *;have HQ:=qI (And.intro q0 (And.intro q1 (And.intro q2 q3)));have HBd:Hid (Below U.heap.size U U.drew):=bf (Q0 _ _);clear q0 q1 q2 q3;have HSB:Hid (∀ W,Below U.heap.size U W->(Jh B tb m s) W):=λW hb=>⟨(hb.cell (p:=⟨B,0,none⟩) (by show B<_;omega)).trans HQ.out.1,(hb.cell (p:=⟨B,1,none⟩) (by show B<_;omega)).trans HQ.out.2.1,(hb.cell (p:=⟨B,2,none⟩) (by show B<_;omega)).trans HQ.out.2.2.1,(hb.cell (p:=⟨B+1,0,none⟩) (by show B+1<_;omega)).trans HQ.out.2.2.2⟩
 have HBW:Hid (∀ W,Below U.heap.size U W->Below w.heap.size w W):=λW hb=>(show Below w.heap.size w U from hB ▸ HBU.out).trans (hb.mono (by omega))
 refine Qo (by kernel_rfl) (HSB.out _ HBd.out) (λhHeld=>?_);refine tk 0 ?_;refine tk 1 ?_;refine tk 2 ?_;refine tk 3 ?_;refine tk 5 ?_;refine tk 6 ?_;refine tk 7 ?_;refine tk 8 ?_;refine tk 10 ?_;refine tk 11 ?_;refine tk 12 ?_;refine rd 4 (λK hK=>?_);go_simp
 go_wp2_with fail
 have hc1:=jK s.cp tb b o c m.l _ (HM.out.below (HBW.out _ HBd.out)).topo HSK.out.cp HM.out.good;rw [wy] at hc1;refine hc1.mono ?_;rintro e W1 ⟨rfl,hb1⟩;have HB1:=qI (HBd.out.trans (hb1.mono (lR)));clear hc1 hb1
 go_wp2
 refine hK.out _ _ (HSB.out _ HB1.out) (λhHeld=>?_);clear hK K;refine rd 9 (λK hK=>?_);go_simp
 go_wp2_with fail
 have hc2:=jK m.op tb b o c m.l _ (HM.out.below (HBW.out _ HB1.out)).topo HM.out.op HM.out.good;rw [wy] at hc2;refine hc2.mono ?_;rintro e W2 ⟨rfl,hb2⟩;have HB2:=qI (HB1.out.trans (hb2.mono HB1.out.size));clear hc2 hb2
 go_wp2
 refine hK.out _ _ (HSB.out _ HB2.out) (λhHeld=>?_);clear hK K;refine rd 13 (λK hK=>?_);go_simp
 go_wp2_with fail
 refine (wE (Ol.bv s.cp m.l) (Ol.bv m.op m.l) m.nd own _ (by omega) (wB _ HM.out.topo.len) (wB _ HM.out.topo.len)).mono ?_;rintro e W3 ⟨ha,hc,rfl,hh3,hf3,hb3⟩;have HB3:=qI (HB2.out.trans (hb3.mono HB2.out.size));have HH3:=qI hh3;clear hb3 hh3 hf3
 go_wp2
 refine hK.out _ _ (HSB.out _ HB3.out) (λhHeld=>?_);clear hK K;have HB4:=qI (HB3.out.alloc HB3.out.size (.cells #[.bool (Ol.bY (Ol.bv s.cp m.l) (Ol.bv m.op m.l) m.nd own).any,.slice ha (Ol.bY (Ol.bv s.cp m.l) (Ol.bv m.op m.l) m.nd own).hs.length hc] 270));refine rd 14 (λK hK=>?_);go_simp
 go_wp2
 refine hK.out _ _ (HSB.out _ HB4.out) (λhHeld=>?_);clear hK K;refine tk 15 ?_;refine Qn (by kernel_rfl) ?_ _;clear hHeld;have hlt3:=HB3.out.size;have HROW0:=qI (show (W3.alloc (.cells #[.bool (Ol.bY (Ol.bv s.cp m.l) (Ol.bv m.op m.l) m.nd own).any,.slice ha (Ol.bY (Ol.bv s.cp m.l) (Ol.bv m.op m.l) m.nd own).hs.length hc] 270)).ownsRow U.heap.size 270 2 (.slice (some ⟨W3.heap.size,0,none⟩) 1 1) 1 (eh ((Ol.bY (Ol.bv s.cp m.l) (Ol.bv m.op m.l) m.nd own),.slice ha (Ol.bY (Ol.bv s.cp m.l) (Ol.bv m.op m.l) m.nd own).hs.length hc)) from World.ownsRow_lit W3 #[.bool (Ol.bY (Ol.bv s.cp m.l) (Ol.bv m.op m.l) m.nd own).any,.slice ha (Ol.bY (Ol.bv s.cp m.l) (Ol.bv m.op m.l) m.nd own).hs.length hc] 1 HB3.out.size (by unfold maxLen;omega) rfl);have HH4:Hid (bo (ag (λb=>b=W3.heap.size) (W3.alloc (.cells #[.bool (Ol.bY (Ol.bv s.cp m.l) (Ol.bv m.op m.l) m.nd own).any,.slice ha (Ol.bY (Ol.bv s.cp m.l) (Ol.bv m.op m.l) m.nd own).hs.length hc] 270))) (.slice ha (Ol.bY (Ol.bv s.cp m.l) (Ol.bv m.op m.l) m.nd own).hs.length hc) (Ol.bY (Ol.bv s.cp m.l) (Ol.bv m.op m.l) m.nd own).hs):=HH3.out.le (kY (N:=W3.heap.size) ((Q0 _ _).alloc (lR) _) rfl (λj hj=>by omega));have HW0:Hid (wl m s own ns 0=[(Ol.bY (Ol.bv s.cp m.l) (Ol.bv m.op m.l) m.nd own)]):=by unfold Hid wl Ol.ce;simp
 generalize hWA:W3.alloc (.cells #[.bool (Ol.bY (Ol.bv s.cp m.l) (Ol.bv m.op m.l) m.nd own).any,.slice ha (Ol.bY (Ol.bv s.cp m.l) (Ol.bv m.op m.l) m.nd own).hs.length hc] 270)=WA at *;generalize hx0:(Ol.bY (Ol.bv s.cp m.l) (Ol.bv m.op m.l) m.nd own)=x0 at *;generalize hg0:W3.heap.size=g0 at *;clear hWA hx0
 go_wp2
 go_loopw [9,31] (λpv i wr=>∃ (k g cap:Nat) (l:List (Wi × Value)),k<=ns.length/\i=.int .i64 k/\pv=.slice (some ⟨g,0,none⟩) l.length cap/\l.length=k+1/\l.map Prod.fst=wl m s own ns k/\wr.ownsRow U.heap.size 270 2 (.slice (some ⟨g,0,none⟩) l.length cap) l.length (l.flatMap eh)/\(∀ x∈l,bo (ag (λb=>b=g) wr) x.2 x.1.hs)/\Below U.heap.size U wr) (λ_ i _=>ns.length - (intOf i).toNat)
 case atStart=>exact ⟨0,g0,1,[(x0,.slice ha x0.hs.length hc)],by omega,rfl,rfl,rfl,by rw [HW0.out];rfl,HROW0.out,λx hx=>by rw [Qm.1 hx];exact HH4.out,HB4.out⟩
 case round=>
  obtain ⟨k,g,cap,l,hk,rfl,rfl,hlk,hlm,hrow,hhs,hb⟩:=hrel;clear HB1 HB2 HB3 HB4 HROW0 HH4 HH3 HBd;have HLK:=qI hlk;have HLM:=qI hlm;have HROW:=qI hrow;have HHS:=qI hhs;have HB:=qI hb;have hln:l.length<=101:=by omega
  have hgl:=(hrow.lt g rfl);clear hlk hlm hrow hhs
  by_cases hlt:k<ns.length
  ·obtain ⟨nb,no,rfl,hnlt,hnc⟩:=HNR.out (by omega);have hbw:=HBW.out _ hb;have c0:=(hbw.cell (p:=⟨nb,no+k*2,none⟩) (by rw [hB];exact hnlt)).trans (hnc k hlt).1;have c1:=(hbw.cell (p:=⟨nb,no+k*2+1,none⟩) (by rw [hB];exact hnlt)).trans (hnc k hlt).2;have HNX:=qI (Jb m s own hlt);have hk1:(k:Int)<(ns.length:Int):=by omega
   clear hnc hbw;generalize nd ns k=x at *;have hszr:=hb.size;have HBa:=qI (hb.alloc hb.size (.cells #[.string x.kind,.int .i64 x.many] 109));have hsa:(wr.alloc (.cells #[.string x.kind,.int .i64 x.many] 109)).heap.size=wr.heap.size+1:=by simp
   have HXA:=qI (aG wr (.cells #[.string x.kind,.int .i64 x.many] 109) rfl);have HPA:=qI ((Q0 wr.heap.size wr).alloc (lR) (.cells #[.string x.kind,.int .i64 x.many] 109));have a0:(wr.alloc (.cells #[.string x.kind,.int .i64 x.many] 109)).cell? ⟨wr.heap.size,0,none⟩=some (.string x.kind):=ad HXA.out 0;have s1:(wr.alloc (.cells #[.string x.kind,.int .i64 x.many] 109)).cell? ⟨B+1,1,none⟩=some (.pointer (some ⟨pb,0,none⟩)):=ad ((HBa.out.block (B+1) (by omega)).trans HU1.out) 1;have HCT:=qI (AV x.kind (wr.alloc (.cells #[.string x.kind,.int .i64 x.many] 109)) pb db ao pc s.ds s.us (HSK.out.below (HBW.out _ HBa.out)).pool HSK.out.nodes);have HFOR:=qI (λ(W:World)=>wE (Ol.ip (fits s.ds s.us x.kind) s.ds) (Ol.ip (bD s.ds x.kind) s.ds) m.nd x.many W (by omega) (wD _ HSK.out.nodes.1) (wD _ HSK.out.nodes.1));unfold v4 Ol.ip at HFOR;dsimp only at HFOR;unfold Ol.ip at HNX;unfold oy at HCT;dsimp only at HCT;generalize cn (fits s.ds s.us x.kind) s.ds 0 s.ds.length=f0 at *;generalize cn (fits s.ds s.us x.kind) s.ds 1 s.ds.length=f1 at *;generalize cn (fits s.ds s.us x.kind) s.ds 2 s.ds.length=f2 at *;generalize cn (fits s.ds s.us x.kind) s.ds 3 s.ds.length=f3 at *;generalize cn (bD s.ds x.kind) s.ds 0 s.ds.length=e0 at *;generalize cn (bD s.ds x.kind) s.ds 1 s.ds.length=e1 at *;generalize cn (bD s.ds x.kind) s.ds 2 s.ds.length=e2 at *;generalize cn (bD s.ds x.kind) s.ds 3 s.ds.length=e3 at *;generalize hy:Ol.bY ⟨f0,f1,f2,f3⟩ ⟨e0,e1,e2,e3⟩ m.nd x.many=y at *;clear hb
   go_wp2_with fail
   generalize wr.alloc (.cells #[.string x.kind,.int .i64 x.many] 109)=WB at *;refine HCT.out.mono ?_;rintro e W2 ⟨rfl,hb2⟩;have HB2:=qI (HBa.out.trans (hb2.mono (by omega)));have HX2:=qI ((hb2.block wr.heap.size (by omega)).trans HXA.out);have HP2:=qI (HPA.out.trans (hb2.mono (by omega)));have hs2:=hb2.size;clear HCT a0 s1 c0 c1 hb2 HBa HXA HPA;have hA3:=((Q0 W2.heap.size W2).alloc (lR) (.cells #[.int .i64 f0,.int .i64 f1,.int .i64 f2,.int .i64 f3] 214)).alloc (by simp) (.cells #[.int .i64 e0,.int .i64 e1,.int .i64 e2,.int .i64 e3] 214);have hs3:((W2.alloc (.cells #[.int .i64 f0,.int .i64 f1,.int .i64 f2,.int .i64 f3] 214)).alloc (.cells #[.int .i64 e0,.int .i64 e1,.int .i64 e2,.int .i64 e3] 214)).heap.size=W2.heap.size+2:=by simp
   have HB3:=qI (HB2.out.trans (hA3.mono HB2.out.size));have HP3:=qI (HP2.out.trans (hA3.mono HP2.out.size));have b1:W2.cell? ⟨wr.heap.size,1,none⟩=some (.int .i64 x.many):=ad HX2.out 1;have b2:W2.cell? ⟨B,2,none⟩=some (.int .u8 m.nd):=(HSB.out _ HB2.out).2.2.1;have b3:((W2.alloc (.cells #[.int .i64 f0,.int .i64 f1,.int .i64 f2,.int .i64 f3] 214)).alloc (.cells #[.int .i64 e0,.int .i64 e1,.int .i64 e2,.int .i64 e3] 214)).cell? ⟨wr.heap.size,1,none⟩=some (.int .i64 x.many):=ad ((hA3.block wr.heap.size (by omega)).trans HX2.out) 1;have b4:((W2.alloc (.cells #[.int .i64 f0,.int .i64 f1,.int .i64 f2,.int .i64 f3] 214)).alloc (.cells #[.int .i64 e0,.int .i64 e1,.int .i64 e2,.int .i64 e3] 214)).cell? ⟨B,2,none⟩=some (.int .u8 m.nd):=(HSB.out _ HB3.out).2.2.1;clear hA3 HX2 HB2 HP2
   go_wp2_with fail
   generalize ((W2.alloc (.cells #[.int .i64 f0,.int .i64 f1,.int .i64 f2,.int .i64 f3] 214)).alloc (.cells #[.int .i64 e0,.int .i64 e1,.int .i64 e2,.int .i64 e3] 214))=W3 at *;refine (HFOR.out W3).mono ?_;rintro e W4 ⟨ha4,hc4,rfl,hh4,hf4,hb4⟩;have HB4:=qI (HB3.out.trans (hb4.mono HB3.out.size));have HP4:=qI (HP3.out.trans (hb4.mono HP3.out.size));have HH4:Hid (bo (ag (λb=>b=g) W4) (.slice ha4 y.hs.length hc4) y.hs):=Ja hh4 (λb o hbo=>by have:=hf4 b o hbo;omega);have HROW4:=qI (show W4.ownsRow U.heap.size 270 2 (.slice (some ⟨g,0,none⟩) l.length cap) l.length (l.flatMap eh) from Jf HROW.out (HP4.out.block g hgl.2));have hs4:=hb4.size;have HN4:=qI (Jd W4 (y,.slice ha4 y.hs.length hc4) 270);dsimp only at HN4;have hbu:U.heap.size<=(W4.alloc (.cells #[.bool y.any,.slice ha4 y.hs.length hc4] 270)).heap.size:=by simp;omega
   clear b1 b2 b3 b4 hh4 hb4 hf4 HFOR
   go_wp2_with (at_builtin;refine wpList_append_lies _ rfl _ _ 226 rfl U.heap.size 270 i0 (.agg #[.bool false,.slice none 0 0]) 2 32 Tryz.underlying226 hi hz0 hz1 hz2 rfl (by decide) _ _ _ rfl (HROW4.out.alloc _) ⟨_,0,none⟩ 1 1 (eh (y,.slice ha4 y.hs.length hc4)) rfl rfl HN4.out (Je _ _ _ _) (by decide) (by unfold maxLen;omega) (by omega) hbu (W4.heap.size+1) (by simp) ?_;intro g' cap' W6 hown' hgrow' hgg hglt)
   have hsz5:(W4.alloc (.cells #[.bool y.any,.slice ha4 y.hs.length hc4] 270)).heap.size=W4.heap.size+1:=by simp
   have HMK:Hid (∀ j,j<W4.heap.size->j≠g->W6.heap[j]?=W4.heap[j]?):=λj hj hne=>(hgrow'.block j (by omega) (λe=>hne (by injection e))).trans (Below.heap_alloc _ _ _ hj)
   have hg':g'=g\/g'=W4.heap.size+1:=by rcases hgg with h|h;exact .inl (by injection h with h;exact h.symm);exact .inr h
   have hs6:=hgrow'.size;have HROW6:Hid (W6.ownsRow U.heap.size 270 2 (.slice (some ⟨g',0,none⟩) (l++[(y,Value.slice ha4 y.hs.length hc4)]).length cap') (l++[(y,Value.slice ha4 y.hs.length hc4)]).length ((l++[(y,Value.slice ha4 y.hs.length hc4)]).flatMap eh)):=by
    unfold Hid;rw [Q2,List.flatMap_append]
    simpa using hown'
   have HB6:=qI ((HB4.out.alloc HB4.out.size _).grown hgrow' (by omega) (λj hj=>by cases hj;exact hgl.1));clear hown' hgrow' hgg
   go_roundw
   case rel=>
    refine ⟨k+1,g',cap',l++[(y,Value.slice ha4 y.hs.length hc4)],by omega,by go_num,by rw [Q2];rfl,by rw [Q2,HLK.out];rfl,by rw [Qj,HLM.out,HNX.out];rfl,HROW6.out,λz hz=>?_,HB6.out⟩
    rcases Qi.1 hz with hz|hz
    ·refine (HHS.out z hz).le (bg (λj hj hne=>⟨by have:=HP4.out.size;omega,?_⟩) (by have:=HP4.out.size;omega));rw [HMK.out j (by have:=HP4.out.size;omega) hne];exact HP4.out.block j hj
    ·rw [Qm.1 hz];exact HH4.out.le (bg (λj hj hne=>⟨by omega,HMK.out j hj hne⟩) (by omega))
   case measure=>simp [intOf];omega
  ·have hke:k=ns.length:=by omega
   have HE:Hid (fA wr (.slice (some ⟨g,0,none⟩) l.length cap) (Ol.ce m s own ns)):=by
    unfold Hid;have e:Ol.ce m s own ns=l.map Prod.fst:=by rw [HLM.out,hke,wl,Qh]
    rw [e];exact Jg HROW.out (λx hx=>(HHS.out x hx).le (ci _ _))
   clear hke
   go_wp2
   go_ret;exact ⟨_,rfl,HE.out,HBW.out _ HB.out⟩
end
