import Derived.Test.YtbmmnflgnmjboaaGreatDoorK32
import Derived.Deep.LoopGhost
set_option maxRecDepth 100000
set_option maxHeartbeats 16000000
namespace Go.Proofs.YtbmmnflgnmjboaaGreatDoor
section
open RowKit Shelf
def ja:Code->List Code
 | .loop c=>c :: ja c
 | .seq a b=>ja a++ja b
 | .cond _ a b=>ja a++ja b
 | .block _ c=>ja c
 | .scope c=>ja c
 | _=>[]
def FrS (G:(Nat->Value)->Act) (P:World->Prop) (a:Act) (w:World):Prop:=∃ F,a=G F/\P w
theorem FrS.mk {G:(Nat->Value)->Act} {P:World->Prop} {a:Act} {w:World} (h:a=G (λn=>a.tmps.getD n undef)) (hP:P w):FrS G P a w:=⟨_,h,hP⟩
def qt (n:Nat) (R:Act->World->Prop):Exit->Act->World->Prop
 | .exit m,a,w=>m=n/\R a w
 | _,_,_=>False
theorem xz {P:Program} {c:Code} {n:Nat} {R:Act->World->Prop} {Q:Exit->Act->World->Prop} {G:(Nat->Value)->Act} {a:Act} {w:World} (ha:a=G (λn=>a.tmps.getD n undef)) (h:∀ F,Code.wp P c (qt n R) (G F) w) (hq:∀ a w,R a w->Q (.exit n) a w):Code.wp P c Q a w:=by
 rw [ha];exact Code.wp_mono (λe a w he=>by
  cases e with
  | exit m=>exact he.1 ▸ hq _ _ he.2
  | _=>exact he.elim) (h _)
def jb (n:Nat):Code->Option Code
 | .region m os d=>if m == n then some (.region m os d) else none
 | .loop c=>jb n c
 | .seq a b=>(jb n a).or (jb n b)
 | .cond _ a b=>(jb n a).or (jb n b)
 | .block _ c=>jb n c
 | .scope c=>jb n c
 | _=>none
def g6 (R:Act->World->Prop):Exit->Act->World->Prop
 | .normal,a,w=>R a w
 | _,_,_=>False
theorem g6.mk {R:Act->World->Prop} {a:Act} {w:World} (h:R a w):g6 R .normal a w:=h
theorem xA {P:Program} {c:Code} {R:Act->World->Prop} {Q:Exit->Act->World->Prop} {G:(Nat->Value)->Act} {a:Act} {w:World} (ha:a=G (λn=>a.tmps.getD n undef)) (h:∀ F,Code.wp P c (g6 R) (G F) w) (hq:∀ a w,R a w->Q .normal a w):Code.wp P c Q a w:=by
 rw [ha];exact Code.wp_mono (λe a w he=>by
  cases e with
  | normal=>exact hq _ _ he
  | _=>exact he.elim) (h _)
theorem qv {P:Program} {Q:Exit->Act->World->Prop} {a:Act} {w:World} {c:Code} (I:Nat->Act->World->Prop) (n₀:Nat) (h₀:I n₀ a w) (round:∀ n a w,I n a w->∀ K:Act->World->Prop,Hid (∀ a' w',(∃ n',n'<n/\I n' a' w')->K a' w')->c.wp P (Exit.then K Q) a w):(Code.loop c).wp P Q a w:=
 wp_loop_ghost I n₀ h₀ λn a w h=>round n a w h _ (qI λ_ _ q=>q)
end
