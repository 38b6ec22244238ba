import Derived.Test.YtbmmnflgnmjboaaGreatDoorR22
import Derived.Test.YtbmmnflgnmjboaaGreatDoorR14
import Derived.Test.YtbmmnflgnmjboaaGreatDoorR15
import Derived.Test.YtbmmnflgnmjboaaGreatDoorR18
set_option maxRecDepth 100000
set_option maxHeartbeats 16000000
namespace Go.Proofs.YtbmmnflgnmjboaaGreatDoor
section
open RowKit Shelf
open Ost (Cpu N4 Wi Hi wi0 told Sm Low ad)
open Qos (Nd nd)
open Dvs (Dv dv fits bD cn)
theorem KN (A:Nat) (l:List Cpu) (x:Nat):∀ k,bh A l (x:Int) k=((List.range k).filter λi=>A.testBit i && decide ((l.getD i ad).node=(x:Int))).length:=by
 intro k
 induction k with
 | zero=>rfl
 | succ k ih=>
  rw [List.range_succ,List.filter_append,Q2,<- ih,bh]
  by_cases h:(A.testBit k && decide ((l.getD k ad).node=(x:Int)))=true
  ·rw [if_pos h,List.filter_cons_of_pos (p:=λi=>A.testBit i && decide ((l.getD i ad).node=(x:Int))) h];rfl
  ·rw [if_neg h,List.filter_cons_of_neg (p:=λi=>A.testBit i && decide ((l.getD i ad).node=(x:Int))) h];rfl
theorem yY (A:Nat) (l:List Cpu):kN A l l.length=v4 (Ol.bu A l):=by
 have e:∀ x:Nat,bh A l (x:Int) l.length=Ol.onNode A l x:=λx=>KN A l x l.length
 have e0:=e 0;have e1:=e 1;have e2:=e 2;have e3:=e 3;unfold kN Ol.bu;rw [<- e0,<- e1,<- e2,<- e3];rfl
theorem o7 (A:Nat) (l:List Cpu) (x:Nat):Ol.onNode A l x<=l.length:=by
 unfold Ol.onNode;exact Q5 (List.length_filter_le _ _) (by simp)
theorem yZ {a b c d:Nat} (ha:a<=64) (hb:b<=64) (hc:c<=64) (hd:d<=64):Sm ⟨a,b,c,d⟩:=by
 intro k
 match k with
 | 0=>show -1000000<=(a:Int)/\(a:Int)<=1000000;omega
 | 1=>show -1000000<=(b:Int)/\(b:Int)<=1000000;omega
 | 2=>show -1000000<=(c:Int)/\(c:Int)<=1000000;omega
 | k+3=>show -1000000<=(d:Int)/\(d:Int)<=1000000;omega
theorem y8 (A:Nat) {l:List Cpu} (h:l.length<=64):Sm (Ol.bu A l):=
 yZ (Q5 (o7 A l 0) h) (Q5 (o7 A l 1) h) (Q5 (o7 A l 2) h) (Q5 (o7 A l 3) h)
theorem o8 (p:Nat->Bool) (ds:List Dv) (x:Nat):∀ k,cn p ds x k<=k:=by
 intro k;unfold cn Dvs.sel;exact Q5 (List.length_filter_le _ _) (by simp)
theorem y9 (p:Nat->Bool) {ds:List Dv} (h:ds.length<=16):Sm (Ol.iM p ds):=
 yZ (Q5 (o8 _ _ _ _) (by omega)) (Q5 (o8 _ _ _ _) (by omega)) (Q5 (o8 _ _ _ _) (by omega)) (Q5 (o8 _ _ _ _) (by omega))
theorem KO {w:World} {v:Value} {l:List Hi} (h:bm w v l):∃ ao c,v=.slice ao l.length c:=by
 rcases h with ⟨rfl,ao,c,rfl⟩|⟨b,o,c,rfl,_⟩
 ·exact ⟨ao,c,rfl⟩
 ·exact ⟨_,c,rfl⟩
theorem za (free all:N4) (nd:Nat) (many:Int) (w:World) (hn:nd<256) (hf:Sm free) (ha:Sm all) :
  Calls Tryz.prog 162 #[v4 free,v4 all,.int .u8 nd,.int .i64 many] w λe w'=>∃ ao c,e=.returned (.agg #[.bool (Ol.b7 free all nd many).any,.slice ao (Ol.b7 free all nd many).hs.length c])/\bm w' (.slice ao (Ol.b7 free all nd many).hs.length c) (Ol.b7 free all nd many).hs/\(∀ b o,ao=some ⟨b,o,none⟩->w.heap.size<=b)/\Below w.heap.size w w':=by
 unfold Ol.b7
 by_cases h:many<=0
 ·rw [if_pos h];refine (B7 free all nd many w h).mono ?_;rintro e w' ⟨rfl,hb⟩;exact ⟨none,0,rfl,.inl ⟨rfl,none,0,rfl⟩,(λ_ _ h=>nomatch h),hb⟩
 ·rw [if_neg h];refine (KM free all nd many w (by omega) hn hf ha).mono ?_;rintro e w' ⟨v,rfl,hh,Ha,hb⟩;obtain ⟨ao,c,rfl⟩:=KO hh;exact ⟨ao,c,rfl,hh,λb o h=>Ha b o _ _ (by rw [h]),hb⟩
theorem zb (free all:N4) (nd:Nat) (many:Int):Low (Ol.b7 free all nd many).hs/\(Ol.b7 free all nd many).hs.length<=16:=by
 unfold Ol.b7
 by_cases h:many<=0
 ·rw [if_pos h];exact ⟨λx hx=>(List.not_mem_nil hx).elim,Nat.zero_le _⟩
 ·rw [if_neg h];refine ⟨λx hx=>?_,Ost.AV _ _ _ _⟩;obtain ⟨m,g⟩:=x
  have:=Ost.AU hx
  exact Nat.lt_trans this.2.1 (by decide)
theorem KQ (m:Ol.Mc) (s:Ol.Sk) (own:Int) (ns:List Nd):p6 (Ol.cf m s own ns):=by
 intro y hy;unfold Ol.cf at hy
 rcases List.mem_cons.1 hy with rfl|hy
 ·exact zb _ _ _ _
 ·obtain ⟨n,_,rfl⟩:=Qk.1 hy;exact zb _ _ _ _
theorem KR (m:Ol.Mc) (s:Ol.Sk) (own:Int) (ns:List Nd):(Ol.cf m s own ns).length=ns.length+1:=by
 unfold Ol.cf;simp
theorem KS (m:Ol.Mc) (s:Ol.Sk) (own:Int) (ns:List Nd) (v:Value) (w:World) (hv:fQ w v (Ol.cf m s own ns)) (hl:ns.length<=3) (hn:1<=m.nd/\m.nd<=15) (hp:0<=m.pol/\m.pol<=3) :
  Calls Tryz.prog 126 #[.int .i64 m.pol,.int .u8 m.nd,v] w λe w'=>e=.returned (.tuple #[vH (Ol.place m (Ol.cf m s own ns)).1,.bool (Ol.place m (Ol.cf m s own ns)).2,.nilIface])/\Below w.heap.size w w':=by
 unfold Ol.place;have Ha:=KR m s own ns
 by_cases h0:m.pol=0
 ·rw [if_pos h0,h0];obtain ⟨ao,c,rfl,_⟩:=hv.form;exact Cu m.nd ao _ c w hn (by omega)
 ·rw [if_neg h0];exact Cv m.pol m.nd v (Ol.cf m s own ns) w hv (KQ m s own ns) (by omega) hn (by omega)
end
section
open RowKit Shelf
open Ost (Cpu N4 Wi Hi wi0 told Sm Low ad)
open Qos (Nd nd)
open Dvs (Dv dv fits bD cn aW)
attribute [local go_sem] Oper.semAt_some
theorem bm.le {W W':World} {v:Value} {l:List Hi} (h:bm W v l) (k:aq W W'):bm W' v l:=by
 rcases h with h|⟨b,o,c,hv,hlt,hc⟩
 ·exact .inl h
 ·exact .inr ⟨b,o,c,hv,Q1 hlt k.size,λj hj=>⟨k.cell _ _ _ (hc j hj).1,k.cell _ _ _ (hc j hj).2⟩⟩
theorem KT {W:World} {ao:Option Addr} {n c g:Nat} {l:List Hi} (h:bm W (.slice ao n c) l) (hg:∀ b o,ao=some ⟨b,o,none⟩->b≠g):bm (ag (λb=>b=g) W) (.slice ao n c) l:=by
 rcases h with h|⟨b,o,c',hv,Ha,hc⟩
 ·exact .inl h
 ·refine .inr ⟨b,o,c',hv,by rw [bH];exact Ha,λj hj=>?_⟩;injection hv with hv
  have hb:=hg b o hv;have e:∀ k,(ag (λb=>b=g) W).cell? ⟨b,k,none⟩=W.cell? ⟨b,k,none⟩:=λk=>World.cell?_of_block (a:=⟨b,k,none⟩) (bZ hb)
  rw [e,e];exact hc j hj
def ev (x:Wi × Value):List Value:=[.bool x.1.any,x.2]
def wl (m:Ol.Mc) (s:Ol.Sk) (own:Int) (ns:List Nd) (k:Nat):List Wi:=Ol.cf m s own (ns.take k)
theorem KU (m:Ol.Mc) (s:Ol.Sk) (own:Int) {ns:List Nd} {k:Nat} (h:k<ns.length):wl m s own ns (k+1)=wl m s own ns k++[Ol.b7 (Ol.iM (fits s.ds s.us (nd ns k).kind) s.ds) (Ol.iM (bD s.ds (nd ns k).kind) s.ds) m.nd (nd ns k).many]:=by
 unfold wl Ol.cf;rw [Qa h,Qj,List.cons_append]
 simp [nd,h]
theorem KV:(Tryz.prog.info? 270).map (λi=>(i.zero,i.size,i.bytes))=some (some (.agg #[.bool false,.slice none 0 0]),2,32):=by kernel_rfl
theorem KW (w:World) (x:Wi × Value) (t:TypeId):∀ j u,(ev x)[j]?=some u->(w.alloc (.cells #[.bool x.1.any,x.2] t)).cell? ((⟨w.heap.size,0,none⟩:Addr).add j)=some u:=by
 intro j u hu;rw [Addr.add_lit,Qd]
 match j,hu with
 | 0,hu=>simp [ev] at hu;subst hu;simp
 | 1,hu=>simp [ev] at hu;subst hu;simp
 | n+2,hu=>simp [ev] at hu
theorem KX (y:Wi) (a:Option Addr) (n c:Nat):∀ u∈ev (y,.slice a n c),u.oneCell'=true:=by
 intro u hu
 simp [ev] at hu
 rcases hu with rfl|rfl <;> rfl
theorem KY {W W':World} {base:Nat} {e:TypeId} {sz g n cap:Nat} {xs:List Value} (h:W.ownsRow base e sz (.slice (some ⟨g,0,none⟩) n cap) n xs) (hb:W'.heap[g]?=W.heap[g]?):W'.ownsRow base e sz (.slice (some ⟨g,0,none⟩) n cap) n xs:=by
 obtain ⟨h1,h2|⟨g2,c2,cur,hv,r1,r2,r3⟩⟩:=h
 ·exact ⟨h1,.inl h2⟩
 ·injection hv with e1 e2 e3
  injection e1 with e1
  injection e1 with e1
  subst e1;exact ⟨h1,.inr ⟨g,c2,cur,by rw [e3],r1,hb.trans r2,r3⟩⟩
theorem KZ {W:World} {base g cap:Nat} {l:List (Wi × Value)} (h:W.ownsRow base 270 2 (.slice (some ⟨g,0,none⟩) l.length cap) l.length (l.flatMap ev)) (hh:∀ x∈l,bm W x.2 x.1.hs):fQ W (.slice (some ⟨g,0,none⟩) l.length cap) (l.map Prod.fst):=by
 refine .inr ⟨g,0,cap,by rw [Q9],(h.lt g rfl).2,λk hk=>?_⟩;rw [Q9] at hk;have e:(l.map Prod.fst).getD k wi0=l[k].1:=by simp [hk]
 have key:∀ (l:List (Wi × Value)) (k:Nat) (hk:k<l.length) (j:Nat),j<2->(l.flatMap ev)[k*2+j]?=(ev l[k])[j]?:=by
  intro l
  induction l with
  | nil=>intro k hk;simp at hk
  | cons a l ih=>
   intro k hk j hj;rw [List.flatMap_cons];cases k with
   | zero=>rw [List.getElem?_append_left (by simp [ev];omega)];simp
   | succ k=>
    rw [List.getElem?_append_right (by simp [ev];omega)]
    have:=ih k (by simpa using hk) j hj
    simp only [List.getElem_cons_succ];rw [<- this]
    congr 1
    simp [ev]
    omega
 have k0:=key l k hk 0 (by decide);have k1:=key l k hk 1 (by decide);rw [e,Qd];refine ⟨?_,l[k].2,?_,hh _ (List.getElem_mem hk)⟩
 ·rw [h.cellAt (k*2) (by omega)];exact k0
 ·rw [h.cellAt (k*2+1) (by omega)];exact k1
structure cK (w:World) (tb b o c:Nat) (m:Ol.Mc):Prop where
 topo:ba w tb b o c m.l
 good:Good m.l
 op:m.op<18446744073709551616
 nd:1<=m.nd/\m.nd<=15
 pol:0<=m.pol/\m.pol<=3
theorem cK.below {w w':World} {tb b o c:Nat} {m:Ol.Mc} (h:cK w tb b o c m) (hb:Below w.heap.size w w'):cK w' tb b o c m:=⟨h.topo.below hb,h.good,h.op,h.nd,h.pol⟩
structure dj (w:World) (pb db:Nat) (ao:Option Addr) (c:Nat) (s:Ol.Sk):Prop where
 pool:ak w pb db ao c s.ds s.us
 nodes:aW s.ds
 cp:s.cp<18446744073709551616
theorem dj.below {w w':World} {pb db:Nat} {ao:Option Addr} {c:Nat} {s:Ol.Sk} (h:dj w pb db ao c s) (hb:Below w.heap.size w w'):dj w' pb db ao c s:=⟨h.pool.below hb,h.nodes,h.cp⟩
def mV (m:Ol.Mc) (tb:Nat):Value:=.agg #[.pointer (some ⟨tb,0,none⟩),.int .u64 m.op,.int .u8 m.nd,.int .i64 m.nb,.int .i64 m.pol]
def sV (s:Ol.Sk) (pb:Nat):Value:=.agg #[.int .u64 s.cp,.pointer (some ⟨pb,0,none⟩)]
abbrev iZ:=λ(x0:Nat) (x1:Ol.Mc)=>(.cells #[.pointer (some ⟨x0,0,none⟩),.int .u64 x1.op,.int .u8 x1.nd,.int .i64 x1.nb,.int .i64 x1.pol] 95:Obj)
abbrev iu:=λ(x0 x1 x2 x3:Int)=>(.cells #[.int .i64 x0,.int .i64 x1,.int .i64 x2,.int .i64 x3] 214:Obj)
abbrev i6:=λ(x0:Ol.Sk) (x1:Nat)=>(.cells #[.int .u64 x0.cp,.pointer (some ⟨x1,0,none⟩)] 98:Obj)
abbrev jI:=λ(x0:Qos.Nd)=>(.cells #[.string x0.kind,.int .i64 x0.many] 109:Obj)
abbrev K0:=λ(B tb:Nat) (m:Ol.Mc) (s:Ol.Sk) (w':World)=>w'.cell? ⟨B,0,none⟩=some (.pointer (some ⟨tb,0,none⟩))/\w'.cell? ⟨B,1,none⟩=some (.int .u64 m.op)/\w'.cell? ⟨B,2,none⟩=some (.int .u8 m.nd)/\w'.cell? ⟨B+1,0,none⟩=some (.int .u64 s.cp)
theorem zc (m:Ol.Mc) (s:Ol.Sk) (tb b o c pb db:Nat) (ao:Option Addr) (pc:Nat) (own:Int) (v:Value) (ns:List Nd) (w:World) (hm:cK w tb b o c m) (hs:dj w pb db ao pc s) (hv:be w v ns) (hl:ns.length<=100) :
  Calls Tryz.prog 127 #[mV m tb,sV s pb,.int .i64 own,v] w λe w'=>∃ v',e=.returned v'/\fQ w' v' (Ol.cf m s own ns)/\Below w.heap.size w w':=by
 obtain ⟨i0,hi,he,ho,ht⟩:=info_parts KV;unfold mV sV;have HM:=qI hm;have Ht:=qI hs;obtain ⟨na,nc,rfl,hn,HL⟩:=hv;unfold maxLen at hn;have hh:=qI HL;have hD:=hm.nd;have sz:((w.alloc (iZ tb m)).alloc (i6 s pb)).heap.size=w.heap.size+2:=by simp
 have HX:=qI (aD (w.alloc (iZ tb m)) (i6 s pb) (n:=w.heap.size+1) (by simp));have HH:=qI (bj (aD w (iZ tb m) rfl) (i6 s pb));have hg:=qI (((Q0 w.heap.size w).alloc (lR) (iZ tb m)).alloc (by simp) (i6 s pb));have q0:((w.alloc (iZ tb m)).alloc (i6 s pb)).cell? ⟨w.heap.size,0,none⟩=some (.pointer (some ⟨tb,0,none⟩)):=aa HH.out 0;have q1:((w.alloc (iZ tb m)).alloc (i6 s pb)).cell? ⟨w.heap.size,1,none⟩=some (.int .u64 m.op):=aa HH.out 1;have q2:((w.alloc (iZ tb m)).alloc (i6 s pb)).cell? ⟨w.heap.size,2,none⟩=some (.int .u8 m.nd):=aa HH.out 2;have q3:((w.alloc (iZ tb m)).alloc (i6 s pb)).cell? ⟨w.heap.size+1,0,none⟩=some (.int .u64 s.cp):=aa HX.out 0;clear hm hs HL
 go_enter Tryz.func127,Tryz.ntmps127
 go_wp2_with fail
 generalize ((w.alloc (iZ tb m)).alloc (i6 s pb))=U at *;generalize hB:w.heap.size=B at *;have HQ:=qI (And.intro q0 (And.intro q1 (And.intro q2 q3)));have Hy:Hid (Below U.heap.size U U.drew):=a6 (Q0 _ _);clear q0 q1 q2 q3;have Hk:Hid (∀ W,Below U.heap.size U W->(K0 B tb m s) W):=λW hb=>⟨(hb.cell (p:=⟨B,0,none⟩) (by show B<_;omega)).trans HQ.out.1,(hb.cell (p:=⟨B,1,none⟩) (by show B<_;omega)).trans HQ.out.2.1,(hb.cell (p:=⟨B,2,none⟩) (by show B<_;omega)).trans HQ.out.2.2.1,(hb.cell (p:=⟨B+1,0,none⟩) (by show B+1<_;omega)).trans HQ.out.2.2.2⟩
 have Hu:Hid (∀ W,Below U.heap.size U W->Below w.heap.size w W):=λW hb=>(show Below w.heap.size w U from hB ▸ hg.out).trans (hb.mono (by omega))
 refine Qo (by kernel_rfl) (Hk.out _ Hy.out) (λhQ=>?_);refine tk 0 ?_;refine tk 1 ?_;refine tk 2 ?_;refine tk 3 ?_;refine tk 5 ?_;refine tk 6 ?_;refine tk 7 ?_;refine tk 8 ?_;refine tk 10 ?_;refine tk 11 ?_;refine tk 12 ?_;refine rd 4 (λK hK=>?_);go_simp
 go_wp2_with fail
 have HF:=kK s.cp tb b o c m.l _ (HM.out.below (Hu.out _ Hy.out)).topo Ht.out.cp HM.out.good;rw [yY] at HF;refine HF.mono ?_;rintro e W1 ⟨rfl,HV⟩;have Hn:=qI (Hy.out.trans (HV.mono (lR)));clear HF HV
 go_wp2
 refine hK.out _ _ (Hk.out _ Hn.out) (λhQ=>?_);clear hK K;refine rd 9 (λK hK=>?_);go_simp
 go_wp2_with fail
 have HJ:=kK m.op tb b o c m.l _ (HM.out.below (Hu.out _ Hn.out)).topo HM.out.op HM.out.good;rw [yY] at HJ;refine HJ.mono ?_;rintro e W2 ⟨rfl,Hi⟩;have Hf:=qI (Hn.out.trans (Hi.mono Hn.out.size));clear HJ Hi
 go_wp2
 refine hK.out _ _ (Hk.out _ Hf.out) (λhQ=>?_);clear hK K;refine rd 13 (λK hK=>?_);go_simp
 go_wp2_with fail
 refine (za (Ol.bu s.cp m.l) (Ol.bu m.op m.l) m.nd own _ (by omega) (y8 _ HM.out.topo.len) (y8 _ HM.out.topo.len)).mono ?_;rintro e W3 ⟨ha,hc,rfl,H0,H9,HW⟩;have Hb:=qI (Hf.out.trans (HW.mono Hf.out.size));have H2:=qI H0;clear HW H0 H9
 go_wp2
 refine hK.out _ _ (Hk.out _ Hb.out) (λhQ=>?_);clear hK K;have Hm:=qI (Hb.out.alloc Hb.out.size (.cells #[.bool (Ol.b7 (Ol.bu s.cp m.l) (Ol.bu m.op m.l) m.nd own).any,.slice ha (Ol.b7 (Ol.bu s.cp m.l) (Ol.bu m.op m.l) m.nd own).hs.length hc] 270));refine rd 14 (λK hK=>?_);go_simp
 go_wp2
 refine hK.out _ _ (Hk.out _ Hm.out) (λhQ=>?_);clear hK K;refine tk 15 ?_;refine Qn (by kernel_rfl) ?_ _;clear hQ;have H8:=Hb.out.size;have Hh:=qI (show (W3.alloc (.cells #[.bool (Ol.b7 (Ol.bu s.cp m.l) (Ol.bu m.op m.l) m.nd own).any,.slice ha (Ol.b7 (Ol.bu s.cp m.l) (Ol.bu m.op m.l) m.nd own).hs.length hc] 270)).ownsRow U.heap.size 270 2 (.slice (some ⟨W3.heap.size,0,none⟩) 1 1) 1 (ev ((Ol.b7 (Ol.bu s.cp m.l) (Ol.bu m.op m.l) m.nd own),.slice ha (Ol.b7 (Ol.bu s.cp m.l) (Ol.bu m.op m.l) m.nd own).hs.length hc)) from World.ownsRow_lit W3 #[.bool (Ol.b7 (Ol.bu s.cp m.l) (Ol.bu m.op m.l) m.nd own).any,.slice ha (Ol.b7 (Ol.bu s.cp m.l) (Ol.bu m.op m.l) m.nd own).hs.length hc] 1 Hb.out.size (by unfold maxLen;omega) rfl);have Hz:Hid (bm (ag (λb=>b=W3.heap.size) (W3.alloc (.cells #[.bool (Ol.b7 (Ol.bu s.cp m.l) (Ol.bu m.op m.l) m.nd own).any,.slice ha (Ol.b7 (Ol.bu s.cp m.l) (Ol.bu m.op m.l) m.nd own).hs.length hc] 270))) (.slice ha (Ol.b7 (Ol.bu s.cp m.l) (Ol.bu m.op m.l) m.nd own).hs.length hc) (Ol.b7 (Ol.bu s.cp m.l) (Ol.bu m.op m.l) m.nd own).hs):=H2.out.le (mx (N:=W3.heap.size) ((Q0 _ _).alloc (lR) _) rfl (λj hj=>by omega));have hr:Hid (wl m s own ns 0=[(Ol.b7 (Ol.bu s.cp m.l) (Ol.bu m.op m.l) m.nd own)]):=by unfold Hid wl Ol.cf;simp
 generalize hWA:W3.alloc (.cells #[.bool (Ol.b7 (Ol.bu s.cp m.l) (Ol.bu m.op m.l) m.nd own).any,.slice ha (Ol.b7 (Ol.bu s.cp m.l) (Ol.bu m.op m.l) m.nd own).hs.length hc] 270)=WA at *;generalize hx0:(Ol.b7 (Ol.bu s.cp m.l) (Ol.bu m.op m.l) m.nd own)=x0 at *;generalize hg0:W3.heap.size=g0 at *;clear hWA hx0
 go_wp2
 go_loopw [9,31] (λpv i wr=>∃ (k g cap:Nat) (l:List (Wi × Value)),k<=ns.length/\i=.int .i64 k/\pv=.slice (some ⟨g,0,none⟩) l.length cap/\l.length=k+1/\l.map Prod.fst=wl m s own ns k/\wr.ownsRow U.heap.size 270 2 (.slice (some ⟨g,0,none⟩) l.length cap) l.length (l.flatMap ev)/\(∀ x∈l,bm (ag (λb=>b=g) wr) x.2 x.1.hs)/\Below U.heap.size U wr) (λ_ i _=>ns.length - (intOf i).toNat)
 case atStart=>exact ⟨0,g0,1,[(x0,.slice ha x0.hs.length hc)],by omega,rfl,rfl,rfl,by rw [hr.out];rfl,Hh.out,λx hx=>by rw [Qm.1 hx];exact Hz.out,Hm.out⟩
 case round=>
  obtain ⟨k,g,cap,l,hk,rfl,rfl,HP,HY,Hl,HS,hb⟩:=hrel;clear Hn Hf Hb Hm Hh Hz H2 Hy;have hq:=qI HP;have HZ:=qI HY;have Hr:=qI Hl;have H6:=qI HS;have HB:=qI hb;have hC:l.length<=101:=by omega
  have HT:=(Hl.lt g rfl);clear HP HY Hl HS
  by_cases hlt:k<ns.length
  ·obtain ⟨nb,no,rfl,Hq,HC⟩:=hh.out (by omega);have HI:=Hu.out _ hb;have c0:=(HI.cell (p:=⟨nb,no+k*2,none⟩) (by rw [hB];exact Hq)).trans (HC k hlt).1;have c1:=(HI.cell (p:=⟨nb,no+k*2+1,none⟩) (by rw [hB];exact Hq)).trans (HC k hlt).2;have H1:=qI (KU m s own hlt);have hH:(k:Int)<(ns.length:Int):=by omega
   clear HC HI;generalize nd ns k=x at *;have hp:=hb.size;have HA:=qI (hb.alloc hb.size (jI x));have hF:(wr.alloc (jI x)).heap.size=wr.heap.size+1:=by simp
   have HG:=qI (aD wr (jI x) rfl);have H4:=qI ((Q0 wr.heap.size wr).alloc (lR) (jI x));have a0:(wr.alloc (jI x)).cell? ⟨wr.heap.size,0,none⟩=some (.string x.kind):=aa HG.out 0;have s1:(wr.alloc (jI x)).cell? ⟨B+1,1,none⟩=some (.pointer (some ⟨pb,0,none⟩)):=aa ((HA.out.block (B+1) (by omega)).trans HX.out) 1;have Hx:=qI (Dd x.kind (wr.alloc (jI x)) pb db ao pc s.ds s.us (Ht.out.below (Hu.out _ HA.out)).pool Ht.out.nodes);have He:=qI (λ(W:World)=>za (Ol.iM (fits s.ds s.us x.kind) s.ds) (Ol.iM (bD s.ds x.kind) s.ds) m.nd x.many W (by omega) (y9 _ Ht.out.nodes.1) (y9 _ Ht.out.nodes.1));unfold v4 Ol.iM at He;dsimp only at He;unfold Ol.iM at H1;unfold qj at Hx;dsimp only at Hx;generalize cn (fits s.ds s.us x.kind) s.ds 0 s.ds.length=f0 at *;generalize cn (fits s.ds s.us x.kind) s.ds 1 s.ds.length=f1 at *;generalize cn (fits s.ds s.us x.kind) s.ds 2 s.ds.length=f2 at *;generalize cn (fits s.ds s.us x.kind) s.ds 3 s.ds.length=f3 at *;generalize cn (bD s.ds x.kind) s.ds 0 s.ds.length=e0 at *;generalize cn (bD s.ds x.kind) s.ds 1 s.ds.length=e1 at *;generalize cn (bD s.ds x.kind) s.ds 2 s.ds.length=e2 at *;generalize cn (bD s.ds x.kind) s.ds 3 s.ds.length=e3 at *;generalize hy:Ol.b7 ⟨f0,f1,f2,f3⟩ ⟨e0,e1,e2,e3⟩ m.nd x.many=y at *;clear hb
   go_wp2_with fail
   generalize wr.alloc (jI x)=WB at *;refine Hx.out.mono ?_;rintro e W2 ⟨rfl,Hi⟩;have Hf:=qI (HA.out.trans (Hi.mono (by omega)));have HD:=qI ((Hi.block wr.heap.size (by omega)).trans HG.out);have HK:=qI (H4.out.trans (Hi.mono (by omega)));have hI:=Hi.size;clear Hx a0 s1 c0 c1 Hi HA HG H4;have Hw:=((Q0 W2.heap.size W2).alloc (lR) (iu f0 f1 f2 f3)).alloc (by simp) (iu e0 e1 e2 e3);have hL:((W2.alloc (iu f0 f1 f2 f3)).alloc (iu e0 e1 e2 e3)).heap.size=W2.heap.size+2:=by simp
   have Hb:=qI (Hf.out.trans (Hw.mono Hf.out.size));have HN:=qI (HK.out.trans (Hw.mono HK.out.size));have b1:W2.cell? ⟨wr.heap.size,1,none⟩=some (.int .i64 x.many):=aa HD.out 1;have b2:W2.cell? ⟨B,2,none⟩=some (.int .u8 m.nd):=(Hk.out _ Hf.out).2.2.1;have b3:((W2.alloc (iu f0 f1 f2 f3)).alloc (iu e0 e1 e2 e3)).cell? ⟨wr.heap.size,1,none⟩=some (.int .i64 x.many):=aa ((Hw.block wr.heap.size (by omega)).trans HD.out) 1;have b4:((W2.alloc (iu f0 f1 f2 f3)).alloc (iu e0 e1 e2 e3)).cell? ⟨B,2,none⟩=some (.int .u8 m.nd):=(Hk.out _ Hb.out).2.2.1;clear Hw HD Hf HK
   go_wp2_with fail
   generalize ((W2.alloc (iu f0 f1 f2 f3)).alloc (iu e0 e1 e2 e3))=W3 at *;refine (He.out W3).mono ?_;rintro e W4 ⟨Hc,Hg,rfl,H7,HR,Hv⟩;have Hm:=qI (Hb.out.trans (Hv.mono Hb.out.size));have Hp:=qI (HN.out.trans (Hv.mono HN.out.size));have Hz:Hid (bm (ag (λb=>b=g) W4) (.slice Hc y.hs.length Hg) y.hs):=KT H7 (λb o hbo=>by have:=HR b o hbo;omega);have Ho:=qI (show W4.ownsRow U.heap.size 270 2 (.slice (some ⟨g,0,none⟩) l.length cap) l.length (l.flatMap ev) from KY Hr.out (Hp.out.block g HT.2));have hE:=Hv.size;have HU:=qI (KW W4 (y,.slice Hc y.hs.length Hg) 270);dsimp only at HU;have hf:U.heap.size<=(W4.alloc (.cells #[.bool y.any,.slice Hc y.hs.length Hg] 270)).heap.size:=by simp;omega
   clear b1 b2 b3 b4 H7 Hv HR He
   go_wp2_with (at_builtin;refine wpList_append_lies _ rfl _ _ 226 rfl U.heap.size 270 i0 (.agg #[.bool false,.slice none 0 0]) 2 32 Tryz.underlying226 hi he ho ht rfl (by decide) _ _ _ rfl (Ho.out.alloc _) ⟨_,0,none⟩ 1 1 (ev (y,.slice Hc y.hs.length Hg)) rfl rfl HU.out (KX _ _ _ _) (by decide) (by unfold maxLen;omega) (by omega) hf (W4.heap.size+1) (by simp) ?_;intro g' cap' W6 Hj Ha HO hA)
   have hw:(W4.alloc (.cells #[.bool y.any,.slice Hc y.hs.length Hg] 270)).heap.size=W4.heap.size+1:=by simp
   have H3:Hid (∀ j,j<W4.heap.size->j≠g->W6.heap[j]?=W4.heap[j]?):=λj hj hne=>(Ha.block j (by omega) (λe=>hne (by injection e))).trans (Below.heap_alloc _ _ _ hj)
   have hJ:g'=g\/g'=W4.heap.size+1:=by rcases HO with h|h;exact .inl (by injection h with h;exact h.symm);exact .inr h
   have hG:=Ha.size;have Hs:Hid (W6.ownsRow U.heap.size 270 2 (.slice (some ⟨g',0,none⟩) (l++[(y,Value.slice Hc y.hs.length Hg)]).length cap') (l++[(y,Value.slice Hc y.hs.length Hg)]).length ((l++[(y,Value.slice Hc y.hs.length Hg)]).flatMap ev)):=by
    unfold Hid;rw [Q2,List.flatMap_append]
    simpa using Hj
   have hu:=qI ((Hm.out.alloc Hm.out.size _).grown Ha (by omega) (λj hj=>by cases hj;exact HT.1));clear Hj Ha HO
   go_roundw
   case rel=>
    refine ⟨k+1,g',cap',l++[(y,Value.slice Hc y.hs.length Hg)],by omega,by go_num,by rw [Q2];rfl,by rw [Q2,hq.out];rfl,by rw [Qj,HZ.out,H1.out];rfl,Hs.out,λz hz=>?_,hu.out⟩
    rcases Qi.1 hz with hz|hz
    ·refine (H6.out z hz).le (bE (λj hj hne=>⟨by have:=Hp.out.size;omega,?_⟩) (by have:=Hp.out.size;omega));rw [H3.out j (by have:=Hp.out.size;omega) hne];exact Hp.out.block j hj
    ·rw [Qm.1 hz];exact Hz.out.le (bE (λj hj hne=>⟨by omega,H3.out j hj hne⟩) (by omega))
   case measure=>simp [intOf];omega
  ·have H5:k=ns.length:=by omega
   have HE:Hid (fQ wr (.slice (some ⟨g,0,none⟩) l.length cap) (Ol.cf m s own ns)):=by
    unfold Hid;have e:Ol.cf m s own ns=l.map Prod.fst:=by rw [HZ.out,H5,wl,Qh]
    rw [e];exact KZ Hr.out (λx hx=>(H6.out x hx).le (cC _ _))
   clear H5
   go_wp2
   go_ret;exact ⟨_,rfl,HE.out,Hu.out _ HB.out⟩
end
