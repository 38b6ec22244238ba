import Derived.Test.YtjlblidnfebmiaaGreatDoorF34
set_option maxRecDepth 100000
set_option maxHeartbeats 16000000
open Go Go.RowKit Go.Shelf
attribute [local go_sem] Oper.semAt_some
namespace Go.Proofs.YtjlblidnfebmiaaGreatDoor
variable{ds:List ak}{g:aR}{ns:List ap}{own:Int}{s:aE}{v:Value}
theorem UQ{W:World}{l:List Int}(h:bD W v l):∃g o,jr W v g o l:=by
 obtain⟨d,c,rfl,n,m⟩:=h
 by_cases e:0<l.length
 ·obtain⟨b,o,j,a,f⟩:=m e;exact⟨b,o,d,c,rfl,λ_=>⟨j,a,λk i=>f k i⟩⟩
 ·exact⟨0,0,d,c,rfl,λh=>absurd h e⟩
theorem EX{B:Nat}{w:World}(h:jV B w v ds):∃g,et w v g 0 ds:=by
 obtain⟨i,c,g,f,d,a⟩:=h;refine⟨g,i,c,f,λe=>⟨(d e).1,(d e).2.2,λk b=>?_⟩⟩;rw[Qd];exact⟨(a k b).1,(a k b).2.1,(a k b).2.2.1⟩
def EY (ds:List ak):Prop:=eE ds/\∀k,k<ds.length->(aC ds k).kind.size<=8
theorem UR(h:dI ds=0):EY ds:=by
 refine⟨mn h,λk a=>?_⟩;unfold dI at h
 split at h
 ·cases h
 ·have:=fA h k a
  unfold iy at this
  split at this
  ·cases this
  ·rename_i b
   have c:bR (aC ds k).kind=true:=by simpa using b
   have:=(kG c).2
   have e:(aC ds k).kind.data.toList.length=(aC ds k).kind.size:=by simp
   omega
def UT (w':World) (sb pb db:Nat) (ao:Option Addr) (c:Nat) (e:Ending):Option aE->Prop
 | some s'=>e=.returned (.bool true)/\w'.heap[sb]?=some (.cells #[.int .u64 s'.cp,.pointer (some ⟨pb,0,none⟩)] 87 (0,0))/\aF w' pb db ao c s'.ds s'.us
 | none=>e=.returned (.bool false)
abbrev ld (pb sb:Nat):Nat->Prop:=λj=>j=pb\/j=sb
theorem yk(h:¬ (g.cp &&& s.cp=g.cp/\(aA g.cp:Int)=own/\bh (eD s.ds.length s.us g.dv) g.dv.length=0)):ex s g own ns=none:=by unfold ex;rw[if_neg h]
theorem UU(h:g.cp &&& s.cp=g.cp/\(aA g.cp:Int)=own/\bh (eD s.ds.length s.us g.dv) g.dv.length=0):(kK s.ds g.dv ns->ex s g own ns=some ⟨aG s.cp g.cp,s.ds,de s.us g.dv⟩)/\(¬ kK s.ds g.dv ns->ex s g own ns=none):=by grind[ex]
abbrev gp:=λ(x0 x1:Nat) (x2:Option Addr) (x3:Nat)=>(.cells #[.int .u64 (x0:Nat),.slice x2 x1 x3] 123:Obj)
abbrev rN:=λ(y0 y1 y2:Nat) (va:Option Addr) (vc sb:Nat) (y6:Int) (pb:Nat) (w':World)=>cl w' y0 (0) (.int .u64 (y1:Nat))/\cl w' y0 (1) (.slice va y2 vc)/\cl w' sb (0) (.int .u64 y6)/\cl w' sb (1) pb
abbrev EZ:=λ(sb pb y2:Nat) (va:Option Addr) (y4 vc:Nat) (w':World)=>cl w' sb (1) pb/\cl w' y2 (1) (.slice va y4 vc)
theorem UV(a b db:Nat)(y:Option Addr)(q:Nat)(s:aE)(g:aR)(own:Int)(v u:Value)(ns:List ap)(w:World)(l:w.heap[a]?=some (.cells #[.int .u64 s.cp,b] 87 (0,0)))(D:aF w b db y q s.ds s.us)(c:EY s.ds)(o:s.cp<18446744073709551616)(n:g.cp<18446744073709551616)(G:bD (au (ld b a) w) v g.dv)(hu:bv (au (ld b a) w) u ns)(M:g.dv.length<=1000)(H:ns.length<=1000)(B:∀k,k<ns.length->(aq ns k).kind.size<=1000/\-1000000<=(aq ns k).many/\(aq ns k).many<=1000000)(I:0<s.ds.length->db≠a) :
  Calls Tryz.prog 129 #[a,.agg #[.int .u64 (g.cp:Nat),v],(own:Int),u] w λe w'=>UT w' a b db y q e (ex s g own ns)/\Apart (ld b a) w w':=by
 have hc:a<w:=(gS l).1;have H9:=D.lt;have He:a≠b:=λe=>by
  subst e;have E:=D.row;rw[ad l 0] at E;cases E
 have Hx:=qI l;have HP:=qI D;have P:=qI G;have HU:=qI hu;have H8:=qI B;have C:=qI c;obtain⟨d,vc,rfl,_,_⟩:=id G;have Hm:=qI ((Q0 w w).alloc (lR) (gp g.cp g.dv.length d vc));have Hw:=qI (bd w (gp g.cp g.dv.length d vc) rfl);have HT:(w.alloc (gp g.cp g.dv.length d vc)).heap.size=w.heap.size+1:=by simp
 have Hh:=qI λ(W:World)=>nJ g.cp s.cp W n o;have Hg:=qI (CI g.cp);have Hl:(bf g.cp 64).length=aA g.cp:=rfl;rw[Hl] at Hg;clear Hl;have U:cl (w.alloc (gp g.cp g.dv.length d vc)) w (0) (.int .u64 (g.cp:Nat)):=ad Hw.o 0;have x1:cl (w.alloc (gp g.cp g.dv.length d vc)) w (1) (.slice d g.dv.length vc):=ad Hw.o 1;have s0:cl (w.alloc (gp g.cp g.dv.length d vc)) a (0) (.int .u64 s.cp):=ad (cC Hx.o _) 0;have s1:cl (w.alloc (gp g.cp g.dv.length d vc)) a (1) b:=ad (cC Hx.o _) 1;have HG:=qI n;have ha:=qI o;clear l D G hu B c
 go_enter Tryz.func129,Tryz.ntmps129
 by_cases m:g.cp &&& s.cp=g.cp
 ·have Hr:decide (g.cp &&& s.cp=g.cp)=true:=Qc m;simp only[Hr] at Hh
  by_cases z:(aA g.cp:Int)=own
  ·have H5:=qI z;have HR:((aA g.cp:Int) != own)=false:=by simp[z]
   have H1:=qI m;have HF:Hu (∀W,Calls Tryz.prog 43 #[.int .u64 (g.cp:Nat),.int .u64 s.cp] W λe w'=>e=.returned true/\w'=W):=Hh.o;obtain⟨cg,HB⟩:∃x,x=aA g.cp:=⟨_,rfl⟩;rw[<- HB] at Hg HR;have Hb:Hu ((rN w g.cp g.dv.length d vc a s.cp b) (w.alloc (gp g.cp g.dv.length d vc)).drew):=⟨U,x1,s0,s1⟩;have H0:Hu (aF (w.alloc (gp g.cp g.dv.length d vc)).drew b db y q s.ds s.us):=(HP.o.alloc _).drewN 1;have HY:=qI (P.o.le ((cJ _ _).trans (aZ.of_below (bB Hm.o))));obtain⟨ng,no,Hc⟩:=UQ HY.o;have Hn:=qI (JY (.slice d g.dv.length vc) ng no g.dv (w.alloc (gp g.cp g.dv.length d vc)).drew b db y q s.ds s.us H0.o C.o.1 Hc (by omega));have R:Hu (Apart (ld b a) w (w.alloc (gp g.cp g.dv.length d vc)).drew):=Apart.of_below (bB Hm.o);have he:(w.alloc (gp g.cp g.dv.length d vc)).drew.heap.size=w.heap.size+1:=HT;clear z m HB Hc Hh;have Y:Hu ((w.alloc (gp g.cp g.dv.length d vc)).drew.heap[a]?=some (.cells #[.int .u64 s.cp,b] 87 (0,0))):=cC Hx.o _;have Z:Hu ((w.alloc (gp g.cp g.dv.length d vc)).drew.heap[w.heap.size]?=some (gp g.cp g.dv.length d vc)):=Hw.o;clear U x1 s0 s1
   by_cases p:bh (eD s.ds.length s.us g.dv) g.dv.length=0
   ·rw[p,show aJ (((0:Nat)):Int)=.nilIface from rfl] at Hn;have L:=qI p;clear p
    go_wp2_with fail
    refine wp_region_held_drew (S:=rN w g.cp g.dv.length d vc a s.cp b) (by kernel_rfl) Hb.o λhHeld=>?_;generalize (w.alloc (gp g.cp g.dv.length d vc)).drew=X at *;refine tk 0 ?_;refine tk 1 ?_;refine tk 2 ?_;refine tk 3 ?_;refine tk 4 ?_;refine tk 5 ?_;refine rd 6 λK c=>?_;go_simp
    go_wp2_with fail
    refine (HF.o _).mono ?_;rintro e F ⟨rfl,rfl⟩
    go_wp2_with fail
    refine c.o _ _ Hb.o λhHeld=>?_;clear c K;refine tk 7 ?_;refine tk 8 ?_;refine tk 9 ?_;refine tk 10 ?_;refine tk 12 ?_;refine rd 11 λK c=>?_;go_simp
    go_wp2_with fail
    refine (Hg.o _ n).mono ?_;rintro e F ⟨rfl,rfl⟩
    go_wp2_with fail
    refine c.o _ _ Hb.o λhHeld=>?_;clear c K;refine tk 13 ?_;refine tk 14 ?_;refine tk 15 ?_;refine tk 16 ?_;refine tk 17 ?_;refine tk 18 ?_;refine tk 19 ?_;refine tk 20 ?_;refine tk 21 ?_;refine rd 22 λK c=>?_;go_simp
    go_wp2_with fail
    refine Hn.o.mono ?_;rintro e f ⟨rfl,Ha,Hk⟩;have Hf:Hu ((rN w g.cp g.dv.length d vc a s.cp b) f):=⟨(Ha.cell_far w (by show w.heap.size<_;omega) (λe=>by injection e with e;have e:w=b:=e;omega)).trans Hb.o.1,(Ha.cell_far ⟨w,1,none⟩ (by show w.heap.size<_;omega) (λe=>by injection e with e;have e:w=b:=e;omega)).trans Hb.o.2.1,(Ha.cell_far a (by show a<_;omega) λe=>He (by injection e)).trans Hb.o.2.2.1,(Ha.cell_far ⟨a,1,none⟩ (by show a<_;omega) λe=>He (by injection e)).trans Hb.o.2.2.2⟩;have Ht:=qI Hk;have Hp:=qI (R.o.trans (gm (K:=ld b a) Ha λj i _=>.inl (by injection i with i;exact i.symm)));have Hv:=qI ((Ha.block a (by omega) λe=>He (by injection e)).trans Y.o);have HS:=qI ((Ha.block w (by omega) (λe=>by injection e with e;omega)).trans Z.o);have HW:=Ha.size;clear Hk Ha
    go_wp2_with fail
    refine c.o _ _ Hf.o λhHeld=>?_;clear c K;refine tk 23 ?_;refine tk 24 ?_;refine Qn (by kernel_rfl) ?_ _;clear hHeld;have c0:cl f a (0) (.int .u64 s.cp):=Hf.o.2.2.1;have c1:cl f w (0) (.int .u64 (g.cp:Nat)):=Hf.o.1;have f0:=bQ Hv.o 0;have HZ:=nI s.cp g.cp o n
    go_wp2_with fail
    go_region
    have Q:Hu (∀j,j≠a->(f.setCell a (.int .u64 (aG s.cp g.cp:Nat))).drew.heap[j]?=f.heap[j]?):=λj i=>set_other i
    have HL:Hu ((f.setCell a (.int .u64 (aG s.cp g.cp:Nat))).drew.heap[a]?=some (.cells #[.int .u64 (aG s.cp g.cp:Nat),b] 87 (0,0))):=aV Hv.o 0 _;have hf:(f.setCell a (.int .u64 (aG s.cp g.cp:Nat))).drew.heap.size=f.heap.size:=by simp[World.drew]
    have T:lr s.ds.length s.us g.dv=de s.us g.dv:=by unfold lr;rw[if_pos L.o]
    rw[T] at Ht;have HQ:Hu (aF (f.setCell a (.int .u64 (aG s.cp g.cp:Nat))).drew b db y q s.ds (de s.us g.dv)):=(Ht.o.kept (cM _ a _) (λe=>He (by injection e with e;exact e.symm)) λE e=>I E (by injection e)).drewN 1;have Hq:Hu (Apart (ld b a) w (f.setCell a (.int .u64 (aG s.cp g.cp:Nat))).drew):=(Hp.o.trans (Apart.setCell (K:=ld b a) (.inr rfl) _ _ _)).trans (Apart.drew _ _);generalize (f.setCell a (.int .u64 (aG s.cp g.cp:Nat))).drew=r at *;have HX:=qI ((Q.o w (by omega)).trans HS.o);have Hz:Hu (∀W,Below r r W->(EZ a b w d g.dv.length vc) W):=λW t=>⟨ad ((t.block a (by omega)).trans HL.o) 1,ad ((t.block w (by omega)).trans HX.o) 1⟩
    have Hy:Hu (Below r r r.drew):=bB (Q0 _ _);have H6:=qI (Aw r.drew b db y q s.ds (de s.us g.dv) (HQ.o.drewN 1) C.o.1);have H4:Hu (∀k,k<g.dv.length->0<=g.dv.getD k 0/\g.dv.getD k 0<s.ds.length):=λk J=>by
     have:=fA L.o k J
     unfold eD bH at this
     split at this
     ·cases this
     ·omega
    clear c0 c1 f0 HZ T Q Hf
    go_wp2_with fail
    refine wp_region_held_drew (S:=EZ a b w d g.dv.length vc) (by kernel_rfl) (Hz.o _ Hy.o) λhHeld=>?_;refine tk 0 ?_;refine tk 1 ?_;refine tk 2 ?_;refine tk 3 ?_;refine tk 5 ?_;refine tk 6 ?_;refine tk 7 ?_;refine rd 4 λK c=>?_;go_simp
    go_wp2_with fail
    refine H6.o.mono ?_;rintro e W3 ⟨v3,rfl,Hs,HH⟩;have Hi:=qI (Hy.o.trans (HH.mono Hy.o.size));have H2:=qI Hs;obtain⟨a3,c3,g3,H7,_⟩:=id Hs;subst H7;clear HH Hs
    go_wp2_with fail
    refine c.o _ _ (Hz.o _ Hi.o) λhHeld=>?_;clear c K;refine rd 8 λK c=>?_;go_simp
    go_wp2_with fail
    obtain⟨dg,Hj⟩:=EX H2.o;have O:=Ts _ _ _ dg 0 s.ds g.dv ns W3 Hj (P.o.le ((nV Hq.o λ_ _ h=>h).trans ((cJ _ _).trans (aZ.of_below Hi.o)))) (HU.o.le ((nV Hq.o λ_ _ h=>h).trans ((cJ _ _).trans (aZ.of_below Hi.o)))) M H H4.o (by have:=C.o.1.1;omega) (λk J=>by have:=C.o.2 k J;omega) H8.o;refine O.mono ?_;rintro e W4 ⟨⟨bb,rfl,N⟩,V⟩;have Ho:=qI (Hi.o.trans (V.mono Hi.o.size));have HO:=qI N;clear V N O Hj
    go_wp2_with fail
    refine c.o _ _ (Hz.o _ Ho.o) λhHeld=>?_;clear c K;refine tk 9 ?_;refine Qn (by kernel_rfl) ?_ _;clear hHeld
    go_wp2
    go_ret;refine⟨?_,Hq.o.trans (Apart.of_below Ho.o)⟩;obtain⟨hy,hn⟩:=UU (s:=s) (g:=g) (own:=own) (ns:=ns) ⟨H1.o,H5.o,L.o⟩
    rcases two bb with t|t
    ·subst t;rw[hy (HO.o.1 rfl)];exact⟨rfl,(Ho.o.block a (by omega)).trans HL.o,HQ.o.below Ho.o⟩
    ·subst t;rw[hn (λh=>by have:=HO.o.2 h;cases this)];rfl
   ·have A:=qI (yk (s:=s) (g:=g) (own:=own) (ns:=ns) λh=>p h.2.2);rw[eP p] at Hn;generalize bh (eD s.ds.length s.us g.dv) g.dv.length=fe at *;clear p
    go_wp2_with fail
    refine wp_region_held_drew (S:=rN w g.cp g.dv.length d vc a s.cp b) (by kernel_rfl) Hb.o λhHeld=>?_;generalize (w.alloc (gp g.cp g.dv.length d vc)).drew=X at *;refine tk 0 ?_;refine tk 1 ?_;refine tk 2 ?_;refine tk 3 ?_;refine tk 4 ?_;refine tk 5 ?_;refine rd 6 λK c=>?_;go_simp
    go_wp2_with fail
    refine (HF.o _).mono ?_;rintro e F ⟨rfl,rfl⟩
    go_wp2_with fail
    refine c.o _ _ Hb.o λhHeld=>?_;clear c K;refine tk 7 ?_;refine tk 8 ?_;refine tk 9 ?_;refine tk 10 ?_;refine tk 12 ?_;refine rd 11 λK c=>?_;go_simp
    go_wp2_with fail
    refine (Hg.o _ n).mono ?_;rintro e F ⟨rfl,rfl⟩
    go_wp2_with fail
    refine c.o _ _ Hb.o λhHeld=>?_;clear c K;refine tk 13 ?_;refine tk 14 ?_;refine tk 15 ?_;refine tk 16 ?_;refine tk 17 ?_;refine tk 18 ?_;refine tk 19 ?_;refine tk 20 ?_;refine tk 21 ?_;refine rd 22 λK c=>?_;go_simp
    go_wp2_with fail
    refine Hn.o.mono ?_;rintro e f ⟨rfl,Ha,Hk⟩;have Hf:Hu ((rN w g.cp g.dv.length d vc a s.cp b) f):=⟨(Ha.cell_far w (by show w.heap.size<_;omega) (λe=>by injection e with e;have e:w=b:=e;omega)).trans Hb.o.1,(Ha.cell_far ⟨w,1,none⟩ (by show w.heap.size<_;omega) (λe=>by injection e with e;have e:w=b:=e;omega)).trans Hb.o.2.1,(Ha.cell_far a (by show a<_;omega) λe=>He (by injection e)).trans Hb.o.2.2.1,(Ha.cell_far ⟨a,1,none⟩ (by show a<_;omega) λe=>He (by injection e)).trans Hb.o.2.2.2⟩;have Ht:=qI Hk;have Hp:=qI (R.o.trans (gm (K:=ld b a) Ha λj i _=>.inl (by injection i with i;exact i.symm)));have Hv:=qI ((Ha.block a (by omega) λe=>He (by injection e)).trans Y.o);have HS:=qI ((Ha.block w (by omega) (λe=>by injection e with e;omega)).trans Z.o);have HW:=Ha.size;clear Hk Ha
    go_wp2_with fail
    refine c.o _ _ Hf.o λhHeld=>?_;clear c K;refine tk 23 ?_;refine tk 24 ?_;refine Qn (by kernel_rfl) ?_ _;clear hHeld
    go_wp2
    go_ret;exact⟨by rw[A.o];rfl,Hp.o⟩
  ·have HR:((aA g.cp:Int) != own)=true:=by simp[z]
   have A:=qI (yk (s:=s) (g:=g) (own:=own) (ns:=ns) λh=>z h.2.1);generalize aA g.cp=cg at *;clear z m
   go_wp2
   go_quiet (first|exact Calls.quiet_of_same (Hh.o _)|exact Calls.quiet_of_same (Hg.o _ n))
   go_wp2
   go_ret;exact⟨by rw[A.o];rfl,(Apart.of_below Hm.o).trans (Apart.drewN _ _ _)⟩
 ·have Hr:decide (g.cp &&& s.cp=g.cp)=false:=Q7 m;simp only[Hr] at Hh;have A:=qI (yk (s:=s) (g:=g) (own:=own) (ns:=ns) λh=>m h.1);clear m
  go_wp2
  go_quiet (first|exact Calls.quiet_of_same (Hh.o _)|exact Calls.quiet_of_same (Hg.o _ n))
  go_wp2
  go_ret;exact⟨by rw[A.o];rfl,(Apart.of_below Hm.o).trans (Apart.drewN _ _ _)⟩
