import Derived.Test.YtjlblidnfebmiaaGreatDoorY37
import Derived.Test.YtjlblidnfebmiaaGreatDoorY31
set_option maxRecDepth 100000
set_option maxHeartbeats 16000000
open Go Go.RowKit Go.Shelf
attribute [local go_sem] Oper.semAt_some
namespace Go.Proofs.YtjlblidnfebmiaaGreatDoor
variable{ds:List aq}{g:aX}{ns:List ak}{own:Int}{s:aC}{v:Value}
theorem Xw{W:World}{l:List Int}(h:bK W v l):∃g o,jM W v g o l:=by
 obtain⟨e,c,rfl,n,j⟩:=h
 by_cases d:0<l.length
 ·obtain⟨b,o,i,a,f⟩:=j d;exact⟨b,o,e,c,rfl,λ_=>⟨i,a,λk m=>f k m⟩⟩
 ·exact⟨0,0,e,c,rfl,λh=>absurd h d⟩
theorem G5{B:Nat}{w:World}(h:lF B w v ds):∃g,et w v g 0 ds:=by
 obtain⟨i,c,g,f,d,a⟩:=h;refine⟨g,i,c,f,λe=>⟨(d e).1,(d e).2.2,λk b=>?_⟩⟩;rw[Qd];exact⟨(a k b).1,(a k b).2.1,(a k b).2.2.1⟩
def G6 (ds:List aq):Prop:=fS ds/\∀k,k<ds.length->(aH ds k).kind.size<=8
theorem Xx(h:dV ds=0):G6 ds:=by
 refine⟨lr h,λk a=>?_⟩;unfold dV at h
 split at h
 ·cases h
 ·have:=fy h k a
  unfold iS at this
  split at this
  ·cases this
  ·simp_all[bY]
def Xy (w':World) (sb pb db:Nat) (ao:Option Addr) (c:Nat) (e:Ending):Option aC->Prop
 | some s'=>e=.returned (.bool true)/\w'.heap[sb]?=some (.cells #[.int .u64 s'.cp,.pointer (some ⟨pb,0,none⟩)] 87 (0,0))/\aM w' pb db ao c s'.ds s'.us
 | none=>e=.returned (.bool false)
abbrev lZ (pb sb:Nat):Nat->Prop:=λj=>j=pb\/j=sb
theorem zS(h:¬ (g.cp &&& s.cp=g.cp/\(az g.cp:Int)=own/\bA (eU s.ds.length s.us g.dv) g.dv.length=0)):eM s g own ns=none:=by grind[eM]
theorem Xz(h:g.cp &&& s.cp=g.cp/\(az g.cp:Int)=own/\bA (eU s.ds.length s.us g.dv) g.dv.length=0):(kY s.ds g.dv ns->eM s g own ns=some ⟨aI s.cp g.cp,s.ds,cM s.us g.dv⟩)/\(¬ kY s.ds g.dv ns->eM s g own ns=none):=by
 grind[eM]
abbrev gP:=λ(x0 x1:Nat) (x2:Option Addr) (x3:Nat)=>(.cells #[.int .u64 (x0:Nat),.slice x2 x1 x3] 123:Obj)
abbrev tH:=λ(y0 y1 y2:Nat) (va:Option Addr) (vc sb:Nat) (y6:Int) (pb:Nat) (w':World)=>cl w' y0 (0) (.int .u64 (y1:Nat))/\cl w' y0 (1) (.slice va y2 vc)/\cl w' sb (0) (.int .u64 y6)/\cl w' sb (1) pb
abbrev G7:=λ(sb pb y2:Nat) (va:Option Addr) (y4 vc:Nat) (w':World)=>cl w' sb (1) pb/\cl w' y2 (1) (.slice va y4 vc)
theorem XA{a c db:Nat}{y:Option Addr}{q:Nat}(s:aC)(g:aX)(own:Int){v u:Value}{ns:List ak}{w:World}(i:w.heap[a]?=some (.cells #[.int .u64 s.cp,c] 87 (0,0)))(D:aM w c db y q s.ds s.us)(d:G6 s.ds)(m:s.cp<18446744073709551616)(l:g.cp<18446744073709551616)(E:bK (av (lZ c a) w) v g.dv)(Q:bC (av (lZ c a) w) u ns)(G:g.dv.length<=1000)(M:ns.length<=1000)(A:∀k,k<ns.length->(ar ns k).kind.size<=1000/\-1000000<=(ar ns k).many/\(ar ns k).many<=1000000)(L:0<s.ds.length->db≠a) :
  Calls Tryz.prog 129 #[a,.agg #[.int .u64 (g.cp:Nat),v],(own:Int),u] w λe w'=>Xy w' a c db y q e (eM s g own ns)/\Apart (lZ c a) w w':=by
 have hf:=(gS i).1;have ha:=D.lt;have He:a≠c:=λe=>by
  subst e;have C:=D.row;rw[ad i 0] at C;cases C
 have Hw:=qI i;have HP:=qI D;have HV:=qI E;have HU:=qI Q;have HW:=qI A;have B:=qI d;obtain⟨b,vc,rfl,_,_⟩:=id E;have Hm:=qI ((Q0 w w).alloc (lR) (gP g.cp g.dv.length b vc));have Hq:=qI (aY w (gP g.cp g.dv.length b vc) rfl);have H6:(w.alloc (gP g.cp g.dv.length b vc)).heap.size=w.heap.size+1:=by simp
 have Hg:=qI λ(W:World)=>od g.cp s.cp W l m;have Hh:=qI (CQ g.cp);have Hi:(bm g.cp 64).length=az g.cp:=rfl;rw[Hi] at Hh;clear Hi;have P:cl (w.alloc (gP g.cp g.dv.length b vc)) w (0) (.int .u64 (g.cp:Nat)):=ad Hq.o 0;have x1:cl (w.alloc (gP g.cp g.dv.length b vc)) w (1) (.slice b g.dv.length vc):=ad Hq.o 1;have T:cl (w.alloc (gP g.cp g.dv.length b vc)) a (0) (.int .u64 s.cp):=ad (bQ Hw.o _) 0;have s1:cl (w.alloc (gP g.cp g.dv.length b vc)) a (1) c:=ad (bQ Hw.o _) 1;have HG:=qI l;have H9:=qI m;clear i D E Q A d
 go_enter Tryz.func129,Tryz.ntmps129
 by_cases n:g.cp &&& s.cp=g.cp
 ·have Hy:decide (g.cp &&& s.cp=g.cp)=true:=Qc n;simp only[Hy] at Hg
  by_cases r:(az g.cp:Int)=own
  ·have H2:=qI r;have Y:((az g.cp:Int) != own)=false:=by simp[r]
   have H1:=qI n;have N:=qI (Hg.o);obtain⟨cg,HL⟩:∃x,x=az g.cp:=⟨_,rfl⟩;rw[<- HL] at Hh Y;have Hb:Hu ((tH w g.cp g.dv.length b vc a s.cp c) (w.alloc (gP g.cp g.dv.length b vc)).drew):=⟨P,x1,T,s1⟩;have HZ:Hu (aM (w.alloc (gP g.cp g.dv.length b vc)).drew c db y q s.ds s.us):=(HP.o.alloc _).drewN 1;have H5:=qI (HV.o.le ((df).trans (aR.of_below (bO Hm.o))));obtain⟨ng,no,Hc⟩:=Xw H5.o;have Hn:=qI (N7 (v:=.slice b g.dv.length vc) (g:=ng) (o:=no) (l:=g.dv) (w:=(w.alloc (gP g.cp g.dv.length b vc)).drew) (d:=c) (db:=db) (A:=y) (c:=q) (ds:=s.ds) (us:=s.us) HZ.o B.o.1 Hc (by omega));have V:Hu (Apart (lZ c a) w (w.alloc (gP g.cp g.dv.length b vc)).drew):=Apart.of_below (bO Hm.o);have hc:(w.alloc (gP g.cp g.dv.length b vc)).drew.heap.size=w.heap.size+1:=H6;clear r n HL Hc Hg;have HN:Hu ((w.alloc (gP g.cp g.dv.length b vc)).drew.heap[a]?=some (.cells #[.int .u64 s.cp,c] 87 (0,0))):=bQ Hw.o _;have HS:Hu ((w.alloc (gP g.cp g.dv.length b vc)).drew.heap[w.heap.size]?=some (gP g.cp g.dv.length b vc)):=Hq.o;clear P x1 T s1
   by_cases o:bA (eU s.ds.length s.us g.dv) g.dv.length=0
   ·rw[o,show aD (((0:Nat)):Int)=.nilIface from rfl] at Hn;have H:=qI o;clear o
    go_wp2_with fail
    refine wp_region_held_drew (S:=tH w g.cp g.dv.length b vc a s.cp c) (by kernel_rfl) Hb.o λhHeld=>?_;generalize (w.alloc (gP g.cp g.dv.length b vc)).drew=X at *;refine tk 0 ?_;refine tk 1 ?_;refine tk 2 ?_;refine tk 3 ?_;refine tk 4 ?_;refine tk 5 ?_;refine rd 6 λK d=>?_;go_simp
    go_wp2_with fail
    refine (N.o _).mono ?_;rintro e I ⟨rfl,rfl⟩
    go_wp2_with fail
    refine d.o _ _ Hb.o λhHeld=>?_;clear d K;refine tk 7 ?_;refine tk 8 ?_;refine tk 9 ?_;refine tk 10 ?_;refine tk 12 ?_;refine rd 11 λK d=>?_;go_simp
    go_wp2_with fail
    refine (Hh.o _ l).mono ?_;rintro e I ⟨rfl,rfl⟩
    go_wp2_with fail
    refine d.o _ _ Hb.o λhHeld=>?_;clear d K;refine tk 13 ?_;refine tk 14 ?_;refine tk 15 ?_;refine tk 16 ?_;refine tk 17 ?_;refine tk 18 ?_;refine tk 19 ?_;refine tk 20 ?_;refine tk 21 ?_;refine rd 22 λK d=>?_;go_simp
    go_wp2_with fail
    refine Hn.o.mono ?_;rintro e f ⟨rfl,Ha,Hl⟩;have Hf:Hu ((tH w g.cp g.dv.length b vc a s.cp c) f):=⟨(Ha.cell_far w (by grind) (λe=>by grind)).trans Hb.o.1,(Ha.cell_far ⟨w,1,none⟩ (by grind) (λe=>by grind)).trans Hb.o.2.1,(Ha.cell_far a (by show a<_;omega) λe=>He (by injection e)).trans Hb.o.2.2.1,(Ha.cell_far ⟨a,1,none⟩ (by show a<_;omega) λe=>He (by injection e)).trans Hb.o.2.2.2⟩;have Hz:=qI Hl;have Hv:=qI (V.o.trans (fv (K:=lZ c a) Ha λj J _=>.inl (by grind)));have Hp:=qI ((Ha.block a (by omega) λe=>He (by injection e)).trans HN.o);have Z:=qI ((Ha.block w (by omega) (λe=>by grind)).trans HS.o);have H7:=Ha.size;clear Hl Ha
    go_wp2_with fail
    refine d.o _ _ Hf.o λhHeld=>?_;clear d K;refine tk 23 ?_;refine tk 24 ?_;refine Qn (by kernel_rfl) ?_ _;clear hHeld;have c0:=Hf.o.2.2.1;have c1:=Hf.o.1;have f0:=bZ Hp.o 0;have HX:=mJ s.cp g.cp m l
    go_wp2_with fail
    go_region
    have HJ:Hu (∀j,j≠a->(f.setCell a (.int .u64 (aI s.cp g.cp:Nat))).drew.heap[j]?=f.heap[j]?):=λj J=>set_other J
    have HH:Hu ((f.setCell a (.int .u64 (aI s.cp g.cp:Nat))).drew.heap[a]?=some (.cells #[.int .u64 (aI s.cp g.cp:Nat),c] 87 (0,0))):=bd Hp.o 0 _;have he:(f.setCell a (.int .u64 (aI s.cp g.cp:Nat))).drew.heap.size=f.heap.size:=by simp[World.drew]
    have HM:mF s.ds.length s.us g.dv=cM s.us g.dv:=by unfold mF;rw[if_pos H.o]
    rw[HM] at Hz;have HF:Hu (aM (f.setCell a (.int .u64 (aI s.cp g.cp:Nat))).drew c db y q s.ds (cM s.us g.dv)):=(Hz.o.kept (dD _ a _) (λe=>He (by grind)) λC e=>L C (by injection e)).drewN 1;have Hx:Hu (Apart (lZ c a) w (f.setCell a (.int .u64 (aI s.cp g.cp:Nat))).drew):=(Hv.o.trans (Apart.setCell (K:=lZ c a) (.inr rfl) _ _ _)).trans (Apart.drew _ _);generalize (f.setCell a (.int .u64 (aI s.cp g.cp:Nat))).drew=t at *;have H0:=qI ((HJ.o w (by omega)).trans Z.o);have Hs:Hu (∀W,Below t t W->(G7 a c w b g.dv.length vc) W):=λW p=>⟨ad ((p.block a (by omega)).trans HH.o) 1,ad ((p.block w (by omega)).trans H0.o) 1⟩
    have Ht:Hu (Below t t t.drew):=bO (Q0 _ _);have H8:=qI (Dm (w:=t.drew) (d:=c) (db:=db) (j:=y) (c:=q) (ds:=s.ds) (us:=cM s.us g.dv) (HF.o.drewN 1) B.o.1);have HY:Hu (∀k,k<g.dv.length->0<=g.dv.getD k 0/\g.dv.getD k 0<s.ds.length):=λk F=>by
     have:=fy H.o k F
     unfold eU bx at this
     split at this
     ·cases this
     ·omega
    clear c0 c1 f0 HX HM HJ Hf
    go_wp2_with fail
    refine wp_region_held_drew (S:=G7 a c w b g.dv.length vc) (by kernel_rfl) (Hs.o _ Ht.o) λhHeld=>?_;refine tk 0 ?_;refine tk 1 ?_;refine tk 2 ?_;refine tk 3 ?_;refine tk 5 ?_;refine tk 6 ?_;refine tk 7 ?_;refine rd 4 λK d=>?_;go_simp
    go_wp2_with fail
    refine H8.o.mono ?_;rintro e W3 ⟨v3,rfl,Hr,HQ⟩;have Hj:=qI (Ht.o.trans (HQ.mono Ht.o.size));have H4:=qI Hr;obtain⟨a3,c3,g3,HT,_⟩:=id Hr;subst HT;clear HQ Hr
    go_wp2_with fail
    refine d.o _ _ (Hs.o _ Hj.o) λhHeld=>?_;clear d K;refine rd 8 λK d=>?_;go_simp
    go_wp2_with fail
    obtain⟨dg,Hk⟩:=G5 H4.o;have O:=Wt (g:=dg) (o:=0) (ds:=s.ds) (l:=g.dv) (ns:=ns) (w:=W3) Hk (HV.o.le ((po Hx.o λ_ _ h=>h).trans ((df).trans (aR.of_below Hj.o)))) (HU.o.le ((po Hx.o λ_ _ h=>h).trans ((df).trans (aR.of_below Hj.o)))) G M HY.o (by have:=B.o.1.1;omega) (λk F=>by have:=B.o.2 k F;omega) HW.o;refine O.mono ?_;rintro e W4 ⟨⟨bb,rfl,U⟩,HO⟩;have Ho:=qI (Hj.o.trans (HO.mono Hj.o.size));have R:=qI U;clear HO U O Hk
    go_wp2_with fail
    refine d.o _ _ (Hs.o _ Ho.o) λhHeld=>?_;clear d K;refine tk 9 ?_;refine Qn (by kernel_rfl) ?_ _;clear hHeld
    go_wp2
    go_ret;refine⟨?_,Hx.o.trans (Apart.of_below Ho.o)⟩;obtain⟨hy,hn⟩:=Xz (s:=s) (g:=g) (own:=own) (ns:=ns) ⟨H1.o,H2.o,H.o⟩
    rcases two bb with p|p
    ·subst p;rw[hy (R.o.1 rfl)];exact⟨rfl,(Ho.o.block a (by omega)).trans HH.o,HF.o.below Ho.o⟩
    ·subst p;rw[hn (λh=>by have:=R.o.2 h;cases this)];rfl
   ·have z:=qI (zS (s:=s) (g:=g) (own:=own) (ns:=ns) λh=>o h.2.2);rw[eW o] at Hn;generalize bA (eU s.ds.length s.us g.dv) g.dv.length=fe at *;clear o
    go_wp2_with fail
    refine wp_region_held_drew (S:=tH w g.cp g.dv.length b vc a s.cp c) (by kernel_rfl) Hb.o λhHeld=>?_;generalize (w.alloc (gP g.cp g.dv.length b vc)).drew=X at *;refine tk 0 ?_;refine tk 1 ?_;refine tk 2 ?_;refine tk 3 ?_;refine tk 4 ?_;refine tk 5 ?_;refine rd 6 λK d=>?_;go_simp
    go_wp2_with fail
    refine (N.o _).mono ?_;rintro e I ⟨rfl,rfl⟩
    go_wp2_with fail
    refine d.o _ _ Hb.o λhHeld=>?_;clear d K;refine tk 7 ?_;refine tk 8 ?_;refine tk 9 ?_;refine tk 10 ?_;refine tk 12 ?_;refine rd 11 λK d=>?_;go_simp
    go_wp2_with fail
    refine (Hh.o _ l).mono ?_;rintro e I ⟨rfl,rfl⟩
    go_wp2_with fail
    refine d.o _ _ Hb.o λhHeld=>?_;clear d K;refine tk 13 ?_;refine tk 14 ?_;refine tk 15 ?_;refine tk 16 ?_;refine tk 17 ?_;refine tk 18 ?_;refine tk 19 ?_;refine tk 20 ?_;refine tk 21 ?_;refine rd 22 λK d=>?_;go_simp
    go_wp2_with fail
    refine Hn.o.mono ?_;rintro e f ⟨rfl,Ha,Hl⟩;have Hf:Hu ((tH w g.cp g.dv.length b vc a s.cp c) f):=⟨(Ha.cell_far w (by grind) (λe=>by grind)).trans Hb.o.1,(Ha.cell_far ⟨w,1,none⟩ (by grind) (λe=>by grind)).trans Hb.o.2.1,(Ha.cell_far a (by show a<_;omega) λe=>He (by injection e)).trans Hb.o.2.2.1,(Ha.cell_far ⟨a,1,none⟩ (by show a<_;omega) λe=>He (by injection e)).trans Hb.o.2.2.2⟩;have Hz:=qI Hl;have Hv:=qI (V.o.trans (fv (K:=lZ c a) Ha λj J _=>.inl (by grind)));have Hp:=qI ((Ha.block a (by omega) λe=>He (by injection e)).trans HN.o);have Z:=qI ((Ha.block w (by omega) (λe=>by grind)).trans HS.o);have H7:=Ha.size;clear Hl Ha
    go_wp2_with fail
    refine d.o _ _ Hf.o λhHeld=>?_;clear d K;refine tk 23 ?_;refine tk 24 ?_;refine Qn (by kernel_rfl) ?_ _;clear hHeld
    go_wp2
    go_ret;exact⟨by rw[z.o];rfl,Hv.o⟩
  ·have Y:((az g.cp:Int) != own)=true:=by simp[r]
   have z:=qI (zS (s:=s) (g:=g) (own:=own) (ns:=ns) λh=>r h.2.1);generalize az g.cp=cg at *;clear r n
   go_wp2
   go_quiet (first|exact Calls.quiet_of_same (Hg.o _)|exact Calls.quiet_of_same (Hh.o _ l))
   go_wp2
   go_ret;exact⟨by rw[z.o];rfl,(Apart.of_below Hm.o).trans (Apart.drewN _ _ _)⟩
 ·have Hy:decide (g.cp &&& s.cp=g.cp)=false:=Q7 n;simp only[Hy] at Hg;have z:=qI (zS (s:=s) (g:=g) (own:=own) (ns:=ns) λh=>n h.1);clear n
  go_wp2
  go_quiet (first|exact Calls.quiet_of_same (Hg.o _)|exact Calls.quiet_of_same (Hh.o _ l))
  go_wp2
  go_ret;exact⟨by rw[z.o];rfl,(Apart.of_below Hm.o).trans (Apart.drewN _ _ _)⟩
