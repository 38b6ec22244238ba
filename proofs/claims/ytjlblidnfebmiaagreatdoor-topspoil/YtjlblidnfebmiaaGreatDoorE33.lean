import Derived.Test.YtjlblidnfebmiaaGreatDoorE32
set_option maxRecDepth 100000
set_option maxHeartbeats 16000000
open Go Go.RowKit Go.Shelf
attribute [local go_sem] Oper.semAt_some
namespace Go.Proofs.YtjlblidnfebmiaaGreatDoor
variable {ds:List ah} {g:aP} {ns:List ai} {own:Int} {s:aB} {v:Value}
theorem Tg {W:World} {l:List Int} (h:bA W v l):∃ g o,jh W v g o l:=by
 obtain ⟨e,c,rfl,n,j⟩:=h
 by_cases d:0<l.length
 ·obtain ⟨b,o,m,a,i⟩:=j d;exact ⟨b,o,e,c,rfl,λ_=>⟨m,a,λk f=>i k f⟩⟩
 ·exact ⟨0,0,e,c,rfl,λh=>absurd h d⟩
theorem Ex {B:Nat} {w:World} (h:jG B w v ds):∃ g,dW w v g 0 ds:=by
 obtain ⟨f,c,g,i,e,a⟩:=h;refine ⟨g,f,c,i,λd=>⟨(e d).1,(e d).2.2,λk b=>?_⟩⟩;rw [Qd];exact ⟨(a k b).1,(a k b).2.1,(a k b).2.2.1⟩
def Ey (ds:List ah):Prop:=eT ds/\∀ k,k<ds.length->(aC ds k).kind.size<=8
theorem Th (h:dQ ds=0):Ey ds:=by
 refine ⟨kg h,λk b=>?_⟩;unfold dQ at h
 split at h
 ·cases h
 ·have:=eR h k b
  unfold iG at this
  split at this
  ·cases this
  ·rename_i a
   have c:bN (aC ds k).kind=true:=by simpa using a
   have:=(lj c).2
   have e:(aC ds k).kind.data.toList.length=(aC ds k).kind.size:=by simp
   omega
def Ti (w':World) (sb pb db:Nat) (ao:Option Addr) (c:Nat) (e:Ending):Option aB->Prop
 | some s'=>e=.returned (.bool true)/\w'.heap[sb]?=some (.cells #[.int .u64 s'.cp,.pointer (some ⟨pb,0,none⟩)] 87 (0,0))/\aJ w' pb db ao c s'.ds s'.us
 | none=>e=.returned (.bool false)
abbrev kL (pb sb:Nat):Nat->Prop:=λj=>j=pb\/j=sb
theorem xL (h:¬ (g.cp &&& s.cp=g.cp/\(ap g.cp:Int)=own/\bh (et s.ds.length s.us g.dv) g.dv.length=0)):ev s g own ns=none:=by unfold ev;rw [if_neg h]
theorem Tj (h:g.cp &&& s.cp=g.cp/\(ap g.cp:Int)=own/\bh (et s.ds.length s.us g.dv) g.dv.length=0):(kt s.ds g.dv ns->ev s g own ns=some ⟨aD s.cp g.cp,s.ds,ci s.us g.dv⟩)/\(¬ kt s.ds g.dv ns->ev s g own ns=none):=by grind [ev]
abbrev fU:=λ(x0 x1:Nat) (x2:Option Addr) (x3:Nat)=>(.cells #[.int .u64 (x0:Nat),.slice x2 x1 x3] 123:Obj)
abbrev re:=λ(y0 y1 y2:Nat) (va:Option Addr) (vc sb:Nat) (y6:Int) (pb:Nat) (w':World)=>cl w' y0 (0) (.int .u64 (y1:Nat))/\cl w' y0 (1) (.slice va y2 vc)/\cl w' sb (0) (.int .u64 y6)/\cl w' sb (1) pb
abbrev Ez:=λ(sb pb y2:Nat) (va:Option Addr) (y4 vc:Nat) (w':World)=>cl w' sb (1) pb/\cl w' y2 (1) (.slice va y4 vc)
theorem Tk (a b db:Nat) (r:Option Addr) (y:Nat) (s:aB) (g:aP) (own:Int) (v u:Value) (ns:List ai) (w:World) (i:w.heap[a]?=some (.cells #[.int .u64 s.cp,b] 87 (0,0))) (E:aJ w b db r y s.ds s.us) (d:Ey s.ds) (o:s.cp<18446744073709551616) (m:g.cp<18446744073709551616) (F:bA (av (kL b a) w) v g.dv) (hu:bO (av (kL b a) w) u ns) (G:g.dv.length<=1000) (H:ns.length<=1000) (A:∀ k,k<ns.length->(ak ns k).kind.size<=1000/\-1000000<=(ak ns k).many/\(ak ns k).many<=1000000) (J:0<s.ds.length->db≠a) :
  Calls Tryz.prog 129 #[a,.agg #[.int .u64 (g.cp:Nat),v],(own:Int),u] w λe w'=>Ti w' a b db r y e (ev s g own ns)/\Apart (kL b a) w w':=by
 have he:a<w:=(gS i).1;have H9:=E.lt;have He:a≠b:=λe=>by
  subst e;have D:=E.row;rw [aa i 0] at D;cases D
 have Hx:=qI i;have HP:=qI E;have O:=qI F;have HU:=qI hu;have H5:=qI A;have C:=qI d;obtain ⟨c,vc,rfl,_,_⟩:=id F;have Hm:=qI ((Q0 w w).alloc (lR) (fU g.cp g.dv.length c vc));have Hs:=qI (aU w (fU g.cp g.dv.length c vc) rfl);have H8:(w.alloc (fU g.cp g.dv.length c vc)).heap.size=w.heap.size+1:=by simp
 have Hh:=qI λ(W:World)=>me g.cp s.cp W m o;have Hf:=qI (Ch g.cp);have Hj:(ba g.cp 64).length=ap g.cp:=rfl;rw [Hj] at Hf;clear Hj;have T:cl (w.alloc (fU g.cp g.dv.length c vc)) w (0) (.int .u64 (g.cp:Nat)):=aa Hs.o 0;have x1:cl (w.alloc (fU g.cp g.dv.length c vc)) w (1) (.slice c g.dv.length vc):=aa Hs.o 1;have s0:cl (w.alloc (fU g.cp g.dv.length c vc)) a (0) (.int .u64 s.cp):=aa (b6 Hx.o _) 0;have s1:cl (w.alloc (fU g.cp g.dv.length c vc)) a (1) b:=aa (b6 Hx.o _) 1;have HG:=qI m;have hf:=qI o;clear i E F hu A d
 go_enter Tryz.func129,Tryz.ntmps129
 by_cases n:g.cp &&& s.cp=g.cp
 ·have Ht:decide (g.cp &&& s.cp=g.cp)=true:=Qc n;simp only [Ht] at Hh
  by_cases q:(ap g.cp:Int)=own
  ·have H2:=qI q;have R:((ap g.cp:Int) != own)=false:=by simp [q]
   have H1:=qI n;have Q:Hu (∀ W,Calls Tryz.prog 43 #[.int .u64 (g.cp:Nat),.int .u64 s.cp] W λe w'=>e=.returned true/\w'=W):=Hh.o;obtain ⟨cg,HS⟩:∃ x,x=ap g.cp:=⟨_,rfl⟩;rw [<- HS] at Hf R;have Hb:Hu ((re w g.cp g.dv.length c vc a s.cp b) (w.alloc (fU g.cp g.dv.length c vc)).drew):=⟨T,x1,s0,s1⟩;have H6:Hu (aJ (w.alloc (fU g.cp g.dv.length c vc)).drew b db r y s.ds s.us):=(HP.o.alloc _).drewN 1;have H7:=qI (O.o.le ((dm _ _).trans (aM.of_below (bF Hm.o))));obtain ⟨ng,no,Hc⟩:=Tg H7.o;have Hn:=qI (Jl (.slice c g.dv.length vc) ng no g.dv (w.alloc (fU g.cp g.dv.length c vc)).drew b db r y s.ds s.us H6.o C.o.1 Hc (by omega));have HN:Hu (Apart (kL b a) w (w.alloc (fU g.cp g.dv.length c vc)).drew):=Apart.of_below (bF Hm.o);have hc:(w.alloc (fU g.cp g.dv.length c vc)).drew.heap.size=w.heap.size+1:=H8;clear q n HS Hc Hh;have HH:Hu ((w.alloc (fU g.cp g.dv.length c vc)).drew.heap[a]?=some (.cells #[.int .u64 s.cp,b] 87 (0,0))):=b6 Hx.o _;have HD:Hu ((w.alloc (fU g.cp g.dv.length c vc)).drew.heap[w.heap.size]?=some (fU g.cp g.dv.length c vc)):=Hs.o;clear T x1 s0 s1
   by_cases p:bh (et s.ds.length s.us g.dv) g.dv.length=0
   ·rw [p,show aL (((0:Nat)):Int)=.nilIface from rfl] at Hn;have I:=qI p;clear p
    go_wp2_with fail
    refine wp_region_held_drew (S:=re w g.cp g.dv.length c vc a s.cp b) (by kernel_rfl) Hb.o λhHeld=>?_;generalize (w.alloc (fU g.cp g.dv.length c vc)).drew=X at *;refine tk 0 ?_;refine tk 1 ?_;refine tk 2 ?_;refine tk 3 ?_;refine tk 4 ?_;refine tk 5 ?_;refine rd 6 λK d=>?_;go_simp
    go_wp2_with fail
    refine (Q.o _).mono ?_;rintro e L ⟨rfl,rfl⟩
    go_wp2_with fail
    refine d.o _ _ Hb.o λhHeld=>?_;clear d K;refine tk 7 ?_;refine tk 8 ?_;refine tk 9 ?_;refine tk 10 ?_;refine tk 12 ?_;refine rd 11 λK d=>?_;go_simp
    go_wp2_with fail
    refine (Hf.o _ m).mono ?_;rintro e L ⟨rfl,rfl⟩
    go_wp2_with fail
    refine d.o _ _ Hb.o λhHeld=>?_;clear d K;refine tk 13 ?_;refine tk 14 ?_;refine tk 15 ?_;refine tk 16 ?_;refine tk 17 ?_;refine tk 18 ?_;refine tk 19 ?_;refine tk 20 ?_;refine tk 21 ?_;refine rd 22 λK d=>?_;go_simp
    go_wp2_with fail
    refine Hn.o.mono ?_;rintro e f ⟨rfl,Ha,Hk⟩;have Hg:Hu ((re w g.cp g.dv.length c vc a s.cp b) f):=⟨(Ha.cell_far w (by show w.heap.size<_;omega) (λe=>by injection e with e;have e:w=b:=e;omega)).trans Hb.o.1,(Ha.cell_far ⟨w,1,none⟩ (by show w.heap.size<_;omega) (λe=>by injection e with e;have e:w=b:=e;omega)).trans Hb.o.2.1,(Ha.cell_far a (by show a<_;omega) λe=>He (by injection e)).trans Hb.o.2.2.1,(Ha.cell_far ⟨a,1,none⟩ (by show a<_;omega) λe=>He (by injection e)).trans Hb.o.2.2.2⟩;have Hy:=qI Hk;have Hz:=qI (HN.o.trans (fp (K:=kL b a) Ha λj l _=>.inl (by injection l with l;exact l.symm)));have Hw:=qI ((Ha.block a (by omega) λe=>He (by injection e)).trans HH.o);have HI:=qI ((Ha.block w (by omega) (λe=>by injection e with e;omega)).trans HD.o);have HZ:=Ha.size;clear Hk Ha
    go_wp2_with fail
    refine d.o _ _ Hg.o λhHeld=>?_;clear d K;refine tk 23 ?_;refine tk 24 ?_;refine Qn (by kernel_rfl) ?_ _;clear hHeld;have c0:cl f a (0) (.int .u64 s.cp):=Hg.o.2.2.1;have c1:cl f w (0) (.int .u64 (g.cp:Nat)):=Hg.o.1;have f0:=bw Hw.o 0;have HT:=kY s.cp g.cp o m
    go_wp2_with fail
    go_region
    have N:Hu (∀ j,j≠a->(f.setCell a (.int .u64 (aD s.cp g.cp:Nat))).drew.heap[j]?=f.heap[j]?):=λj l=>set_other l
    have P:Hu ((f.setCell a (.int .u64 (aD s.cp g.cp:Nat))).drew.heap[a]?=some (.cells #[.int .u64 (aD s.cp g.cp:Nat),b] 87 (0,0))):=aO Hw.o 0 _;have ha:(f.setCell a (.int .u64 (aD s.cp g.cp:Nat))).drew.heap.size=f.heap.size:=by simp [World.drew]
    have Z:kW s.ds.length s.us g.dv=ci s.us g.dv:=by unfold kW;rw [if_pos I.o]
    rw [Z] at Hy;have HB:Hu (aJ (f.setCell a (.int .u64 (aD s.cp g.cp:Nat))).drew b db r y s.ds (ci s.us g.dv)):=(Hy.o.kept (cK _ a _) (λe=>He (by injection e with e;exact e.symm)) λD e=>J D (by injection e)).drewN 1;have Hp:Hu (Apart (kL b a) w (f.setCell a (.int .u64 (aD s.cp g.cp:Nat))).drew):=(Hz.o.trans (Apart.setCell (K:=kL b a) (.inr rfl) _ _ _)).trans (Apart.drew _ _);generalize (f.setCell a (.int .u64 (aD s.cp g.cp:Nat))).drew=z at *;have H0:=qI ((N.o w (by omega)).trans HI.o);have Hv:Hu (∀ W,Below z z W->(Ez a b w c g.dv.length vc) W):=λW t=>⟨aa ((t.block a (by omega)).trans P.o) 1,aa ((t.block w (by omega)).trans H0.o) 1⟩
    have Hq:Hu (Below z z z.drew):=bF (Q0 _ _);have HW:=qI (zZ z.drew b db r y s.ds (ci s.us g.dv) (HB.o.drewN 1) C.o.1);have HY:Hu (∀ k,k<g.dv.length->0<=g.dv.getD k 0/\g.dv.getD k 0<s.ds.length):=λk M=>by
     have:=eR I.o k M
     unfold et bf at this
     split at this
     ·cases this
     ·omega
    clear c0 c1 f0 HT Z N Hg
    go_wp2_with fail
    refine wp_region_held_drew (S:=Ez a b w c g.dv.length vc) (by kernel_rfl) (Hv.o _ Hq.o) λhHeld=>?_;refine tk 0 ?_;refine tk 1 ?_;refine tk 2 ?_;refine tk 3 ?_;refine tk 5 ?_;refine tk 6 ?_;refine tk 7 ?_;refine rd 4 λK d=>?_;go_simp
    go_wp2_with fail
    refine HW.o.mono ?_;rintro e W3 ⟨v3,rfl,Hr,HQ⟩;have Hl:=qI (Hq.o.trans (HQ.mono Hq.o.size));have H4:=qI Hr;obtain ⟨a3,c3,g3,HX,_⟩:=id Hr;subst HX;clear HQ Hr
    go_wp2_with fail
    refine d.o _ _ (Hv.o _ Hl.o) λhHeld=>?_;clear d K;refine rd 8 λK d=>?_;go_simp
    go_wp2_with fail
    obtain ⟨dg,Hi⟩:=Ex H4.o;have hJ:=Sb _ _ _ dg 0 s.ds g.dv ns W3 Hi (O.o.le ((nI Hp.o λ_ _ h=>h).trans ((dm _ _).trans (aM.of_below Hl.o)))) (HU.o.le ((nI Hp.o λ_ _ h=>h).trans ((dm _ _).trans (aM.of_below Hl.o)))) G H HY.o (by have:=C.o.1.1;omega) (λk M=>by have:=C.o.2 k M;omega) H5.o;refine hJ.mono ?_;rintro e W4 ⟨⟨bb,rfl,V⟩,Y⟩;have Ho:=qI (Hl.o.trans (Y.mono Hl.o.size));have U:=qI V;clear Y V hJ Hi
    go_wp2_with fail
    refine d.o _ _ (Hv.o _ Ho.o) λhHeld=>?_;clear d K;refine tk 9 ?_;refine Qn (by kernel_rfl) ?_ _;clear hHeld
    go_wp2
    go_ret;refine ⟨?_,Hp.o.trans (Apart.of_below Ho.o)⟩;obtain ⟨hy,hn⟩:=Tj (s:=s) (g:=g) (own:=own) (ns:=ns) ⟨H1.o,H2.o,I.o⟩
    rcases two bb with t|t
    ·subst t;rw [hy (U.o.1 rfl)];exact ⟨rfl,(Ho.o.block a (by omega)).trans P.o,HB.o.below Ho.o⟩
    ·subst t;rw [hn (λh=>by have:=U.o.2 h;cases this)];rfl
   ·have B:=qI (xL (s:=s) (g:=g) (own:=own) (ns:=ns) λh=>p h.2.2);rw [eV p] at Hn;generalize bh (et s.ds.length s.us g.dv) g.dv.length=fe at *;clear p
    go_wp2_with fail
    refine wp_region_held_drew (S:=re w g.cp g.dv.length c vc a s.cp b) (by kernel_rfl) Hb.o λhHeld=>?_;generalize (w.alloc (fU g.cp g.dv.length c vc)).drew=X at *;refine tk 0 ?_;refine tk 1 ?_;refine tk 2 ?_;refine tk 3 ?_;refine tk 4 ?_;refine tk 5 ?_;refine rd 6 λK d=>?_;go_simp
    go_wp2_with fail
    refine (Q.o _).mono ?_;rintro e L ⟨rfl,rfl⟩
    go_wp2_with fail
    refine d.o _ _ Hb.o λhHeld=>?_;clear d K;refine tk 7 ?_;refine tk 8 ?_;refine tk 9 ?_;refine tk 10 ?_;refine tk 12 ?_;refine rd 11 λK d=>?_;go_simp
    go_wp2_with fail
    refine (Hf.o _ m).mono ?_;rintro e L ⟨rfl,rfl⟩
    go_wp2_with fail
    refine d.o _ _ Hb.o λhHeld=>?_;clear d K;refine tk 13 ?_;refine tk 14 ?_;refine tk 15 ?_;refine tk 16 ?_;refine tk 17 ?_;refine tk 18 ?_;refine tk 19 ?_;refine tk 20 ?_;refine tk 21 ?_;refine rd 22 λK d=>?_;go_simp
    go_wp2_with fail
    refine Hn.o.mono ?_;rintro e f ⟨rfl,Ha,Hk⟩;have Hg:Hu ((re w g.cp g.dv.length c vc a s.cp b) f):=⟨(Ha.cell_far w (by show w.heap.size<_;omega) (λe=>by injection e with e;have e:w=b:=e;omega)).trans Hb.o.1,(Ha.cell_far ⟨w,1,none⟩ (by show w.heap.size<_;omega) (λe=>by injection e with e;have e:w=b:=e;omega)).trans Hb.o.2.1,(Ha.cell_far a (by show a<_;omega) λe=>He (by injection e)).trans Hb.o.2.2.1,(Ha.cell_far ⟨a,1,none⟩ (by show a<_;omega) λe=>He (by injection e)).trans Hb.o.2.2.2⟩;have Hy:=qI Hk;have Hz:=qI (HN.o.trans (fp (K:=kL b a) Ha λj l _=>.inl (by injection l with l;exact l.symm)));have Hw:=qI ((Ha.block a (by omega) λe=>He (by injection e)).trans HH.o);have HI:=qI ((Ha.block w (by omega) (λe=>by injection e with e;omega)).trans HD.o);have HZ:=Ha.size;clear Hk Ha
    go_wp2_with fail
    refine d.o _ _ Hg.o λhHeld=>?_;clear d K;refine tk 23 ?_;refine tk 24 ?_;refine Qn (by kernel_rfl) ?_ _;clear hHeld
    go_wp2
    go_ret;exact ⟨by rw [B.o];rfl,Hz.o⟩
  ·have R:((ap g.cp:Int) != own)=true:=by simp [q]
   have B:=qI (xL (s:=s) (g:=g) (own:=own) (ns:=ns) λh=>q h.2.1);generalize ap g.cp=cg at *;clear q n
   go_wp2
   go_quiet (first|exact Calls.quiet_of_same (Hh.o _)|exact Calls.quiet_of_same (Hf.o _ m))
   go_wp2
   go_ret;exact ⟨by rw [B.o];rfl,(Apart.of_below Hm.o).trans (Apart.drewN _ _ _)⟩
 ·have Ht:decide (g.cp &&& s.cp=g.cp)=false:=Q7 n;simp only [Ht] at Hh;have B:=qI (xL (s:=s) (g:=g) (own:=own) (ns:=ns) λh=>n h.1);clear n
  go_wp2
  go_quiet (first|exact Calls.quiet_of_same (Hh.o _)|exact Calls.quiet_of_same (Hf.o _ m))
  go_wp2
  go_ret;exact ⟨by rw [B.o];rfl,(Apart.of_below Hm.o).trans (Apart.drewN _ _ _)⟩
