import Derived.Test.YtlhfiapfncikdaaGreatDoorPN0
set_option linter.unusedVariables false
set_option linter.unusedSimpArgs false
set_option maxRecDepth 100000
set_option maxHeartbeats 3200000
namespace Go.Proofs.YtlhfiapfncikdaaGreatDoor
namespace bJ
section
open Go.RowKit bQ
def jf (P:Prop)(w:World)(e:Ending)(w':World):Prop:=∃ b:Bool,e=.returned (.bool b)∧(b=true↔P)∧Below w.heap.size w w'
theorem bM {P:Prop}{w w':World}(h:P)(hb:Below w.heap.size w w'):jf P w (.returned (.bool true)) w':=⟨true,rfl,by simp [h],hb⟩
theorem aB {P:Prop}{w w':World}(h:¬P)(hb:Below w.heap.size w w'):jf P w (.returned (.bool false)) w':=⟨false,rfl,by simp [h],hb⟩
theorem bq {P:Prop}{w:World}{e:Ending}{w':World}(h:jf P w e w'):∃ b:Bool,e=.returned (.bool b)∧(b=true↔P)∧Below w.heap.size w w':=h
theorem iT {P:Nat→Prop}{k:Nat}(h:∀ j,j<k→P j)(hk:P k):∀ j,j<k+1→P j:=fun j hj=>by
 by_cases e:j=k
 ·subst e;exact hk
 ·exact h j (by omega)
def dD (n lo hi:Int):Bool:=decide (lo≤n)&&decide (n≤hi)
theorem dG (n lo hi:Int):dD n lo hi=true↔lo≤n∧n≤hi:=by simp [dD]
theorem pW (n lo hi:Int)(w:World) :
 Calls Tryz.prog 157 #[.int .i64 n,.int .i64 lo,.int .i64 hi] w fun e w'=>e=.returned (.bool (dD n lo hi))∧w=w':=by
 by_cases h1:lo≤n
 ·by_cases h2:n≤hi
  ·have hb:dD n lo hi=true:=by simp [dD,h1,h2]
   rw [hb];clear hb
   go_enter Tryz.func157,Tryz.ntmps157
   go_wp2
   go_ret
   exact ⟨rfl,rfl⟩
  ·have hb:dD n lo hi=false:=by simp [dD,h1,h2]
   rw [hb];clear hb
   have h2':decide (n≤hi)=false:=by simpa using h2
   go_enter Tryz.func157,Tryz.ntmps157
   go_wp2
   go_ret
   exact ⟨rfl,rfl⟩
 ·have hb:dD n lo hi=false:=by simp [dD,h1]
  rw [hb];clear hb
  have h1':decide (lo≤n)=false:=by simpa using h1
  go_enter Tryz.func157,Tryz.ntmps157
  go_wp2
  go_ret
  exact ⟨rfl,rfl⟩
theorem lF (n lo hi:Int)(w:World) :
 Calls Tryz.prog 191 #[.int .i64 n,.int .i64 lo,.int .i64 hi] w fun e w'=>e=.returned (.bool (dD n lo hi))∧w=w':=by
 by_cases h1:lo≤n
 ·by_cases h2:n≤hi
  ·have hb:dD n lo hi=true:=by simp [dD,h1,h2]
   rw [hb];clear hb
   go_enter Tryz.func191,Tryz.ntmps191
   go_wp2
   go_ret
   exact ⟨rfl,rfl⟩
  ·have hb:dD n lo hi=false:=by simp [dD,h1,h2]
   rw [hb];clear hb
   have h2':decide (n≤hi)=false:=by simpa using h2
   go_enter Tryz.func191,Tryz.ntmps191
   go_wp2
   go_ret
   exact ⟨rfl,rfl⟩
 ·have hb:dD n lo hi=false:=by simp [dD,h1]
  rw [hb];clear hb
  have h1':decide (lo≤n)=false:=by simpa using h1
  go_enter Tryz.func191,Tryz.ntmps191
  go_wp2
  go_ret
  exact ⟨rfl,rfl⟩
theorem oQ (n:Int)(w:World) :
 Calls Tryz.prog 176 #[.int .i64 n] w fun e w'=>e=.returned (.bool (dD n 0 1000000))∧w=w':=by
 go_enter Tryz.func176,Tryz.ntmps176
 go_wp2_with (go_at_call 157;refine (pW _ _ _ _).mono ?_;rintro e w' ⟨rfl,rfl⟩)
 go_ret
 exact ⟨rfl,rfl⟩
theorem oU (n:Int)(w:World) :
 Calls Tryz.prog 224 #[.int .i64 n] w fun e w'=>e=.returned (.bool (dD n 0 1000000))∧w=w':=by
 go_enter Tryz.func224,Tryz.ntmps224
 go_wp2_with (go_at_call 191;refine (lF _ _ _ _).mono ?_;rintro e w' ⟨rfl,rfl⟩)
 go_ret
 exact ⟨rfl,rfl⟩
def zX (a b:Int):Bool:=dD a 0 1000000&&(decide (a<b)&&decide (b≤1000000))
theorem iM (a b:Int)(w:World) :
 Calls Tryz.prog 115 #[.agg #[.int .i64 a,.int .i64 b]] w fun e w'=>e=.returned (.bool (zX a b))∧Below w.heap.size w w':=by
 have hB:Below w.heap.size w (w.alloc (.cells #[.int .i64 a,.int .i64 b] 61)):=(aW _ _).alloc (bK _) _
 have HB:=ak hB
 clear hB
 cases h1:dD a 0 1000000 with
 | true=>
  by_cases h2:a<b
  ·by_cases h3:b≤1000000
   ·have hb:zX a b=true:=by simp [zX,h1,h2,h3]
    rw [hb];clear hb
    have hc:=fun W=>oQ a W
    rw [h1] at hc
    clear h1
    go_enter Tryz.func115,Tryz.ntmps115
    go_wp2_with (go_at_call 176;refine (hc _).mono ?_;rintro e w' ⟨rfl,rfl⟩)
    go_ret
    exact ⟨rfl,HB.out⟩
   ·have hb:zX a b=false:=by simp [zX,h3]
    rw [hb];clear hb
    have h3':decide (b≤1000000)=false:=by simpa using h3
    have hc:=fun W=>oQ a W
    rw [h1] at hc
    clear h1
    go_enter Tryz.func115,Tryz.ntmps115
    go_wp2_with (go_at_call 176;refine (hc _).mono ?_;rintro e w' ⟨rfl,rfl⟩)
    go_ret
    exact ⟨rfl,HB.out⟩
  ·have hb:zX a b=false:=by simp [zX,h2]
   rw [hb];clear hb
   have h2':decide (a<b)=false:=by simpa using h2
   have hc:=fun W=>oQ a W
   rw [h1] at hc
   clear h1
   go_enter Tryz.func115,Tryz.ntmps115
   go_wp2_with (go_at_call 176;refine (hc _).mono ?_;rintro e w' ⟨rfl,rfl⟩)
   go_ret
   exact ⟨rfl,HB.out⟩
 | false=>
  have hb:zX a b=false:=by simp [zX,h1]
  rw [hb];clear hb
  have hc:=fun W=>oQ a W
  rw [h1] at hc
  clear h1
  go_enter Tryz.func115,Tryz.ntmps115
  go_wp2_with (go_at_call 176;refine (hc _).mono ?_;rintro e w' ⟨rfl,rfl⟩)
  go_ret
  exact ⟨rfl,HB.out⟩
theorem iN (a b:Int)(w:World) :
 Calls Tryz.prog 177 #[.agg #[.int .i64 a,.int .i64 b]] w fun e w'=>e=.returned (.bool (zX a b))∧Below w.heap.size w w':=by
 have hB:Below w.heap.size w (w.alloc (.cells #[.int .i64 a,.int .i64 b] 61)):=(aW _ _).alloc (bK _) _
 have HB:=ak hB
 clear hB
 cases h1:dD a 0 1000000 with
 | true=>
  by_cases h2:a<b
  ·by_cases h3:b≤1000000
   ·have hb:zX a b=true:=by simp [zX,h1,h2,h3]
    rw [hb];clear hb
    have hc:=fun W=>oU a W
    rw [h1] at hc
    clear h1
    go_enter Tryz.func177,Tryz.ntmps177
    go_wp2_with (go_at_call 224;refine (hc _).mono ?_;rintro e w' ⟨rfl,rfl⟩)
    go_ret
    exact ⟨rfl,HB.out⟩
   ·have hb:zX a b=false:=by simp [zX,h3]
    rw [hb];clear hb
    have h3':decide (b≤1000000)=false:=by simpa using h3
    have hc:=fun W=>oU a W
    rw [h1] at hc
    clear h1
    go_enter Tryz.func177,Tryz.ntmps177
    go_wp2_with (go_at_call 224;refine (hc _).mono ?_;rintro e w' ⟨rfl,rfl⟩)
    go_ret
    exact ⟨rfl,HB.out⟩
  ·have hb:zX a b=false:=by simp [zX,h2]
   rw [hb];clear hb
   have h2':decide (a<b)=false:=by simpa using h2
   have hc:=fun W=>oU a W
   rw [h1] at hc
   clear h1
   go_enter Tryz.func177,Tryz.ntmps177
   go_wp2_with (go_at_call 224;refine (hc _).mono ?_;rintro e w' ⟨rfl,rfl⟩)
   go_ret
   exact ⟨rfl,HB.out⟩
 | false=>
  have hb:zX a b=false:=by simp [zX,h1]
  rw [hb];clear hb
  have hc:=fun W=>oU a W
  rw [h1] at hc
  clear h1
  go_enter Tryz.func177,Tryz.ntmps177
  go_wp2_with (go_at_call 224;refine (hc _).mono ?_;rintro e w' ⟨rfl,rfl⟩)
  go_ret
  exact ⟨rfl,HB.out⟩
theorem zk (a b c d:Int)(w:World) :
 Calls Tryz.prog 311 #[.agg #[.int .i64 a,.int .i64 b],.agg #[.int .i64 c,.int .i64 d]] w fun e w'=>e=.returned (.bool (decide (b≤c)))∧Below w.heap.size w w':=by
 go_enter Tryz.func311,Tryz.ntmps311
 go_wp2
 go_ret
 exact ⟨rfl,((aW _ _).alloc (bK _) _).alloc (by simp) _⟩
end
end bJ
namespace aQ
section
open Go.RowKit bN bO bJ bQ
theorem oL (n lo hi:Int){b:Bool}(hb:dD n lo hi=b)(w:World) :
 Calls Tryz.prog 191 #[.int .i64 n,.int .i64 lo,.int .i64 hi] w fun e w'=>e=.returned (.bool b)∧w=w':=by
 subst hb
 exact lF n lo hi w
theorem uQ {n lo hi:Int}:dD n lo hi=true↔lo≤n∧n≤hi:=dG n lo hi
end
end aQ
namespace dH
section
open Go.RowKit
def rP (l s:Int):Prop:=0≤l∧l≤3∧0≤s∧s≤7
def rB (l s:Int):Bool:=decide (0≤l)&&(decide (l≤3)&&(decide (0≤s)&&decide (s≤7)))
theorem AX (l s:Int):rB l s=true↔rP l s:=by unfold rB rP;simp
def dD (n lo hi:Int):Bool:=decide (lo≤n)&&decide (n≤hi)
def lab (l s:Int):Value:=.agg #[.int .i64 l,.int .i64 s]
theorem Va (n lo hi:Int)(w:World) :
 Calls Tryz.prog 157 #[.int .i64 n,.int .i64 lo,.int .i64 hi] w fun e w'=>e=.returned (.bool (dD n lo hi))∧w=w':=by
 by_cases h1:lo≤n
 ·by_cases h2:n≤hi
  ·have hb:dD n lo hi=true:=by simp [dD,h1,h2]
   rw [hb];clear hb
   go_enter Tryz.func157,Tryz.ntmps157
   go_wp2
   go_ret
   exact ⟨rfl,rfl⟩
  ·have hb:dD n lo hi=false:=by simp [dD,h1,h2]
   rw [hb];clear hb
   have h2':decide (n≤hi)=false:=by simpa using h2
   go_enter Tryz.func157,Tryz.ntmps157
   go_wp2
   go_ret
   exact ⟨rfl,rfl⟩
 ·have hb:dD n lo hi=false:=by simp [dD,h1]
  rw [hb];clear hb
  have h1':decide (lo≤n)=false:=by simpa using h1
  go_enter Tryz.func157,Tryz.ntmps157
  go_wp2
  go_ret
  exact ⟨rfl,rfl⟩
def uN (l s:Int):Obj:=.cells #[.int .i64 l,.int .i64 s] 49
theorem iM (l s:Int)(w:World) :
 Calls Tryz.prog 162 #[lab l s] w fun e w'=>e=.returned (.bool (rB l s))∧w.alloc (uN l s)=w':=by
 unfold lab
 by_cases h1:dD l 0 3=true
 ·have hb:rB l s=dD s 0 7:=by simp [dD] at h1;simp [rB,dD,h1]
  rw [hb];clear hb
  go_enter Tryz.func162,Tryz.ntmps162
  go_wp2_with (go_at_call 157;refine (Va _ _ _ _).mono ?_;rintro e w' ⟨rfl,rfl⟩)
  go_ret
  exact ⟨rfl,rfl⟩
 ·have h1':dD l 0 3=false:=by simpa using h1
  have hb:rB l s=false:=by
   simp [dD] at h1;simp [rB];omega
  rw [hb];clear hb h1
  go_enter Tryz.func162,Tryz.ntmps162
  go_wp2_with (go_at_call 157;refine (Va _ _ _ _).mono ?_;rintro e w' ⟨rfl,rfl⟩)
  go_ret
  exact ⟨rfl,rfl⟩
theorem Ag {a b:Int}(h:¬a≤b):decide (a≤b)=false:=by simpa using h
theorem iN (l s:Int)(w:World) :
 Calls Tryz.prog 196 #[lab l s] w fun e w'=>e=.returned (.bool (rB l s))∧w.alloc (uN l s)=w':=by
 unfold lab
 by_cases h1:0≤l
 ·by_cases h2:l≤3
  ·by_cases h3:0≤s
   ·by_cases h4:s≤7
    ·have hb:rB l s=true:=by rw [AX];exact ⟨h1,h2,h3,h4⟩
     rw [hb];clear hb
     go_enter Tryz.func196,Tryz.ntmps196
     go_wp2
     go_ret
     exact ⟨rfl,rfl⟩
    ·have hb:rB l s=false:=by simp [rB];omega
     rw [hb];clear hb
     have g:=Ag h4
     go_enter Tryz.func196,Tryz.ntmps196
     go_wp2
     go_ret
     exact ⟨rfl,rfl⟩
   ·have hb:rB l s=false:=by simp [rB];omega
    rw [hb];clear hb
    have g:=Ag h3
    go_enter Tryz.func196,Tryz.ntmps196
    go_wp2
    go_ret
    exact ⟨rfl,rfl⟩
  ·have hb:rB l s=false:=by simp [rB];omega
   rw [hb];clear hb
   have g:=Ag h2
   go_enter Tryz.func196,Tryz.ntmps196
   go_wp2
   go_ret
   exact ⟨rfl,rfl⟩
 ·have hb:rB l s=false:=by simp [rB];omega
  rw [hb];clear hb
  have g:=Ag h1
  go_enter Tryz.func196,Tryz.ntmps196
  go_wp2
  go_ret
  exact ⟨rfl,rfl⟩
def xI (a b:Int):Int:=if a<b then a else b
def bB (l s m t:Int):Bool:=decide (l≤m)&&(bits BinOp.and IntKind.i64 s t==s)
theorem oh (l s m t:Int)(w:World) :
 Calls Tryz.prog 221 #[lab l s,lab m t] w fun e w'=>e=.returned (.bool (bB l s m t))∧(w.alloc (uN l s)).alloc (uN m t)=w':=by
 unfold lab
 by_cases h:l≤m
 ·have hb:bB l s m t=(bits BinOp.and IntKind.i64 s t==s):=by simp [bB,h]
  rw [hb];clear hb
  go_enter Tryz.func221,Tryz.ntmps221
  go_wp2
  go_ret
  exact ⟨rfl,rfl⟩
 ·have hb:bB l s m t=false:=by simp [bB,h]
  rw [hb];clear hb
  have g:=Ag h
  go_enter Tryz.func221,Tryz.ntmps221
  go_wp2
  go_ret
  exact ⟨rfl,rfl⟩
def AQ (l s m t:Int):Value:=if rB l s=true∧rB m t=true then lab (xI l m) (bits BinOp.and IntKind.i64 s t) else lab 0 0
theorem abX {a b:Int}(h:a<b):a=xI a b:=by unfold xI;split <;> omega
theorem abY {a b:Int}(h:b≤a):b=xI a b:=by unfold xI;split <;> omega
theorem Ia {l s m t:Int}(h1:rB l s=true)(h2:rB m t=true):AQ l s m t=lab (xI l m) (bits BinOp.and IntKind.i64 s t):=by unfold AQ;rw [if_pos ⟨h1,h2⟩]
theorem Wu {l s m t:Int}(h1:rB l s=false):AQ l s m t=.agg #[.int .i64 0,.int .i64 0]:=by unfold AQ;rw [if_neg (by simp [h1])];rfl
theorem Wt {l s m t:Int}(h1:rB m t=false):AQ l s m t=.agg #[.int .i64 0,.int .i64 0]:=by unfold AQ;rw [if_neg (by simp [h1])];rfl
theorem Rj (l s m t:Int)(w:World) :
 Calls Tryz.prog 256 #[lab l s,lab m t] w fun e w'=>e=.returned (AQ l s m t)∧Below w.heap.size w w':=by
 by_cases h1:rB l s=true
 ·by_cases h2:rB m t=true
  ·rw [Ia h1 h2]
   unfold lab
   go_enter Tryz.func256,Tryz.ntmps256
   go_wp2_with (go_at_call 196;refine (iN _ _ _).mono ?_;unfold uN;rintro e w1 ⟨rfl,rfl⟩)
   all_goals
    refine bodyPost_ret (v:=.agg #[.int .i64 (xI l m),.int .i64 (bits BinOp.and IntKind.i64 s t)]) (by simp [results,Tryz.results256,go_sem];first | exact abX ‹_› | exact abY ‹_› | (unfold xI;split <;> omega)) rfl ⟨rfl,?_⟩
    repeat (first | exact Below.refl _ _ | refine Below.setCell ?_ (by simp <;> omega) _ | refine Below.drew ?_ | refine Below.alloc ?_ (by simp <;> omega) _)
  ·have h2':rB m t=false:=by simpa using h2
   rw [Wt h2']
   clear h2
   unfold lab
   go_enter Tryz.func256,Tryz.ntmps256
   go_wp2_with (go_at_call 196;refine (iN _ _ _).mono ?_;unfold uN;rintro e w1 ⟨rfl,rfl⟩)
   refine bodyPost_ret (v:=.agg #[.int .i64 0,.int .i64 0]) (by simp [results,Tryz.results256,go_sem]) rfl ⟨rfl,?_⟩
   repeat (first | exact Below.refl _ _ | refine Below.setCell ?_ (by simp <;> omega) _ | refine Below.drew ?_ | refine Below.alloc ?_ (by simp <;> omega) _)
 ·have h1':rB l s=false:=by simpa using h1
  rw [Wu h1']
  clear h1
  unfold lab
  go_enter Tryz.func256,Tryz.ntmps256
  go_wp2_with (go_at_call 196;refine (iN _ _ _).mono ?_;unfold uN;rintro e w1 ⟨rfl,rfl⟩)
  refine bodyPost_ret (v:=.agg #[.int .i64 0,.int .i64 0]) (by simp [results,Tryz.results256,go_sem]) rfl ⟨rfl,?_⟩
  repeat (first | exact Below.refl _ _ | refine Below.setCell ?_ (by simp <;> omega) _ | refine Below.drew ?_ | refine Below.alloc ?_ (by simp <;> omega) _)
end
section
open Go.RowKit bQ
theorem inits (w:World)(l s m t:Int)(k k':TypeId):KS w (w.heap.size+2) [(w.heap.size,0,.int .i64 l),(w.heap.size,1,.int .i64 s),(w.heap.size+1,0,.int .i64 m),(w.heap.size+1,1,.int .i64 t)] ((w.alloc (.cells #[.int .i64 l,.int .i64 s] k)).alloc (.cells #[.int .i64 m,.int .i64 t] k')):=
 ⟨by simp,by simp,by simp,((aW _ _).alloc (bK _) _).alloc (by simp) _,by simp⟩
theorem rs_w (l s:Int)(w:World):Calls Tryz.prog 162 #[.agg #[.int .i64 l,.int .i64 s]] w fun e w'=>e=.returned (.bool (rB l s))∧Below w.heap.size w w':=
 (iM l s w).mono fun e w' ⟨he,hw⟩=>⟨he,by rw [←hw];exact (aW _ _).alloc (bK _) _⟩
theorem ri_w (l s:Int)(w:World):Calls Tryz.prog 196 #[.agg #[.int .i64 l,.int .i64 s]] w fun e w'=>e=.returned (.bool (rB l s))∧Below w.heap.size w w':=
 (iN l s w).mono fun e w' ⟨he,hw⟩=>⟨he,by rw [←hw];exact (aW _ _).alloc (bK _) _⟩
def iV (l s m t:Int):Bool:=rB l s&&(rB m t&&bB l s m t)
theorem sI {l s m t:Int}(h1:rB l s=true)(h2:rB m t=true):iV l s m t=bB l s m t:=by simp [iV,h1,h2]
theorem Er {l s m t:Int}(h1:rB l s=false):iV l s m t=false:=by simp [iV,h1]
theorem Ep {l s m t:Int}(h1:rB m t=false):iV l s m t=false:=by simp [iV,h1]
theorem Mq (l s m t:Int)(w:World) :
 Calls Tryz.prog 185 #[lab l s,lab m t] w fun e w'=>e=.returned (.bool (iV l s m t))∧Below w.heap.size w w':=by
 by_cases h1:rB l s=true
 ·by_cases h2:rB m t=true
  ·rw [sI h1 h2]
   unfold lab
   go_enter Tryz.func185,Tryz.ntmps185
   go_wp2_with (first | (go_at_call 162;refine (iM _ _ _).mono ?_;unfold uN;rintro e w1 ⟨rfl,rfl⟩) | (go_at_call 221;refine (oh _ _ _ _ _).mono ?_;unfold uN;rintro e w1 ⟨rfl,rfl⟩))
   go_ret
   refine ⟨rfl,?_⟩
   repeat (first | exact aW _ _ | refine Below.setCell ?_ (by simp <;> omega) _ | refine Below.drew ?_ | refine Below.alloc ?_ (by simp <;> omega) _)
  ·have h2':rB m t=false:=by simpa using h2
   rw [Ep h2']
   clear h2
   unfold lab
   go_enter Tryz.func185,Tryz.ntmps185
   go_wp2_with (first | (go_at_call 162;refine (iM _ _ _).mono ?_;unfold uN;rintro e w1 ⟨rfl,rfl⟩) | (go_at_call 221;refine (oh _ _ _ _ _).mono ?_;unfold uN;rintro e w1 ⟨rfl,rfl⟩))
   go_ret
   refine ⟨rfl,?_⟩
   repeat (first | exact aW _ _ | refine Below.setCell ?_ (by simp <;> omega) _ | refine Below.drew ?_ | refine Below.alloc ?_ (by simp <;> omega) _)
 ·have h1':rB l s=false:=by simpa using h1
  rw [Er h1']
  clear h1
  unfold lab
  go_enter Tryz.func185,Tryz.ntmps185
  go_wp2_with (first | (go_at_call 162;refine (iM _ _ _).mono ?_;unfold uN;rintro e w1 ⟨rfl,rfl⟩) | (go_at_call 221;refine (oh _ _ _ _ _).mono ?_;unfold uN;rintro e w1 ⟨rfl,rfl⟩))
  go_ret
  refine ⟨rfl,?_⟩
  repeat (first | exact aW _ _ | refine Below.setCell ?_ (by simp <;> omega) _ | refine Below.drew ?_ | refine Below.alloc ?_ (by simp <;> omega) _)
theorem eq_below (l s m t:Int):bB l s m t=((xI l m==l)&&(bits BinOp.and IntKind.i64 s t==s)):=by
 have h:decide (l≤m)=(xI l m==l):=by
  rw [Bool.eq_iff_iff];simp [xI];omega
 unfold bB
 rw [h]
theorem Vt (a b:Bool):a=false∧(a&&b)=false∨(a=true∧b=false)∧(a&&b)=false∨(a=true∧b=true)∧(a&&b)=true:=by cases a <;> cases b <;> simp
theorem Ch (l s m t:Int)(w:World) :
 Calls Tryz.prog 231 #[lab l s,lab m t] w fun e w'=>e=.returned (.bool (iV l s m t))∧Below w.heap.size w w':=by
 by_cases h1:rB l s=true
 ·by_cases h2:rB m t=true
  ·rw [sI h1 h2,eq_below]
   have HM:∀ w,Calls Tryz.prog 256 #[lab l s,lab m t] w fun e w'=>e=.returned (lab (xI l m) (bits BinOp.and IntKind.i64 s t))∧Below w.heap.size w w':=by
    intro w
    have:=Rj l s m t w
    rw [Ia h1 h2] at this
    exact this
   generalize xI l m=p at *
   generalize bits BinOp.and IntKind.i64 s t=q at *
   unfold lab at *
   rcases Vt (p==l) (q==s) with ⟨g1,g⟩ | ⟨⟨g1,g2⟩,g⟩ | ⟨⟨g1,g2⟩,g⟩
   all_goals
    rw [g]
    clear g
    go_enter Tryz.func231,Tryz.ntmps231
    go_wp2_with fail
    go_region_held3 (fun W=>W.cell? ⟨w.heap.size,0,none⟩=some (.int .i64 l)∧W.cell? ⟨w.heap.size,1,none⟩=some (.int .i64 s)∧W.cell? ⟨w.heap.size+1,0,none⟩=some (.int .i64 m)∧W.cell? ⟨w.heap.size+1,1,none⟩=some (.int .i64 t)∧KS w (w.heap.size+2) ([(w.heap.size,0,.int .i64 l),(w.heap.size,1,.int .i64 s),(w.heap.size+1,0,.int .i64 m),(w.heap.size+1,1,.int .i64 t)]) W)
     (exact ((fun (h:KS w (w.heap.size+2) ([(w.heap.size,0,.int .i64 l),(w.heap.size,1,.int .i64 s),(w.heap.size+1,0,.int .i64 m),(w.heap.size+1,1,.int .i64 t)]) _)=>⟨h.at (by simp),h.at (by simp),h.at (by simp),h.at (by simp),h⟩) (by (repeat (first | assumption | exact inits w l s m t _ _ | refine KS.drew ?_ | refine KS.alloc ?_ _ | refine KS.set ?_ (by first | omega | (simp <;> omega)) _)))))
     (first | (go_at_call 196;refine (ri_w _ _ _).mono ?_;rintro e w1 ⟨rfl,hb⟩;have hL:=KS.call (w:=w) (base:=w.heap.size+2) (L:=[(w.heap.size,0,.int .i64 l),(w.heap.size,1,.int .i64 s),(w.heap.size+1,0,.int .i64 m),(w.heap.size+1,1,.int .i64 t)]) (by (repeat (first | assumption | exact inits w l s m t _ _ | refine KS.drew ?_ | refine KS.alloc ?_ _ | refine KS.set ?_ (by first | omega | (simp <;> omega)) _))) hb;have hz:=hL.size;have hs:=hb.size;(try simp at hs);(try have FU:=join FU hb);(try have FU:=kG FU hb);(try have FU:=lU FU hb);(try have FV:=join FV hb);(try have FV:=kG FV hb);(try have FV:=lU FV hb);(try have FW:=join FW hb);(try have FW:=kG FW hb);(try have FW:=lU FW hb);(first | (have hqD':=FU;have hqD:=hb) | (have hqB':=FV;have FU:=hb) | (have hqA':=FW;have FV:=hb) | have FW:=hb);(try (have hrA:=rules FW;obtain ⟨hrA1,hrA2,hrA3,hrA4⟩:=hrA));(try (have hrB:=rules FV;obtain ⟨hrB1,hrB2,hrB3,hrB4⟩:=hrB));(try (have hrC:=rules FU;obtain ⟨hrC1,hrC2,hrC3,hrC4⟩:=hrC));(try (have hrD:=rules hqD;obtain ⟨hrD1,hrD2,hrD3,hrD4⟩:=hrD))) | (go_at_call 256;refine (HM _).mono ?_;rintro e w1 ⟨rfl,hb⟩;have hL:=KS.call (w:=w) (base:=w.heap.size+2) (L:=[(w.heap.size,0,.int .i64 l),(w.heap.size,1,.int .i64 s),(w.heap.size+1,0,.int .i64 m),(w.heap.size+1,1,.int .i64 t)]) (by (repeat (first | assumption | exact inits w l s m t _ _ | refine KS.drew ?_ | refine KS.alloc ?_ _ | refine KS.set ?_ (by first | omega | (simp <;> omega)) _))) hb;have hz:=hL.size;have hs:=hb.size;(try simp at hs);(try have FU:=join FU hb);(try have FU:=kG FU hb);(try have FU:=lU FU hb);(try have FV:=join FV hb);(try have FV:=kG FV hb);(try have FV:=lU FV hb);(try have FW:=join FW hb);(try have FW:=kG FW hb);(try have FW:=lU FW hb);(first | (have hqD':=FU;have hqD:=hb) | (have hqB':=FV;have FU:=hb) | (have hqA':=FW;have FV:=hb) | have FW:=hb);(try (have hrA:=rules FW;obtain ⟨hrA1,hrA2,hrA3,hrA4⟩:=hrA));(try (have hrB:=rules FV;obtain ⟨hrB1,hrB2,hrB3,hrB4⟩:=hrB));(try (have hrC:=rules FU;obtain ⟨hrC1,hrC2,hrC3,hrC4⟩:=hrC));(try (have hrD:=rules hqD;obtain ⟨hrD1,hrD2,hrD3,hrD4⟩:=hrD))))
    go_wp2_with fail
    go_ret
    exact ⟨rfl,KS.below (base:=w.heap.size+2) (L:=[(w.heap.size,0,.int .i64 l),(w.heap.size,1,.int .i64 s),(w.heap.size+1,0,.int .i64 m),(w.heap.size+1,1,.int .i64 t)]) (by (repeat (first | assumption | exact inits w l s m t _ _ | refine KS.drew ?_ | refine KS.alloc ?_ _ | refine KS.set ?_ (by first | omega | (simp <;> omega)) _)))⟩
  ·have h2':rB m t=false:=by simpa using h2
   rw [Ep h2']
   clear h2
   unfold lab
   go_enter Tryz.func231,Tryz.ntmps231
   go_wp2_with fail
   go_region_with (first | (go_at_call 196;refine (iN _ _ _).mono ?_;unfold uN;rintro e w1 ⟨rfl,rfl⟩))
   all_goals go_wp2
   all_goals go_ret
   all_goals refine ⟨rfl,?_⟩
   all_goals repeat (first | exact aW _ _ | refine Below.setCell ?_ (by simp <;> omega) _ | refine Below.drew ?_ | refine Below.alloc ?_ (by simp <;> omega) _)
 ·have h1':rB l s=false:=by simpa using h1
  rw [Er h1']
  clear h1
  unfold lab
  go_enter Tryz.func231,Tryz.ntmps231
  go_wp2_with fail
  go_region_with (first | (go_at_call 196;refine (iN _ _ _).mono ?_;unfold uN;rintro e w1 ⟨rfl,rfl⟩))
  all_goals go_wp2
  all_goals go_ret
  all_goals refine ⟨rfl,?_⟩
  all_goals repeat (first | exact aW _ _ | refine Below.setCell ?_ (by simp <;> omega) _ | refine Below.drew ?_ | refine Below.alloc ?_ (by simp <;> omega) _)
end
end dH
namespace aQ
section
open Go.RowKit bN bO
section
variable {α:Type}{E:Rp α}{w w':World}{lo hi:Nat}{T:TypeId}{v:Value}{L:List α}{xs:List Value}{Sf:Nat→Nat→Prop}
theorem E9 {P:Program}{w:World}{t ty e:TypeId}{i:TypeInfo}(ht:P.underlying t=some (.slice e))(hi:P.info? e=some i)(base a:Option Addr)(cap c:Nat) :
 (Builtin.append_ #[t,t] ty #[.slice base 0 cap,.slice a 0 c]).run P w=.ok (.slice base 0 cap) w:=by
 have hf:(Builtin.firstCells i.size 0 (.slice a 0 c)).run P w=.ok #[] w:=by
  cases a with
  | none=>exact run_firstCells_none _ _ _ _ _
  | some a=>exact run_firstCells_some _ _ 0 a 0 c [] (by simp) (by simp)
 cases base <;> simp [Builtin.append_,run_underlying ht,sizeOf,typeInfo,hi,Builtin.lenOf,hf,storeCells]
structure App {α:Type}(E:Rp α)(w:World)(lo hi:Nat)(T:TypeId)(v:Value)(L:List α)(xs:List Value)(Sf:Nat→Nat→Prop):Prop where
 own:w.ownsRow lo T E.size v L.length xs
 el:∀ i x,L[i]? = some x→∃ us,(∀ j c,us[j]? = some c→xs[i*E.size+j]? = some c)∧E.ow w (Sf i) x us
 sub:∀ i k,Sf i k→lo≤k∧k<hi∧v.ownBlock≠some k
 zO:∀ i j k,i<j→Sf i k→¬Sf j k
 blk:∀ k,v.ownBlock=some k→lo≤k∧k<hi
 le:hi≤w.heap.size
theorem App.none_ (E:Rp α)(w:World){lo hi:Nat}(T:TypeId)(h:hi≤w.heap.size):App E w lo hi T (.slice none 0 0) [] [] (fun _ _=>False):=
 ⟨⟨by simp,.inl ⟨rfl,rfl⟩⟩,fun i x hx=>by simp at hx,fun i k h=>h.elim,fun i j k _ h=>h.elim,fun k hk=>(by cases hk),h⟩
theorem App.made (E:Rp α)(w:World)(T:TypeId):App E (w.alloc (.cells #[] T)) w.heap.size (w.heap.size+1) T (.slice (some ⟨w.heap.size,0,none⟩) 0 0) [] [] (fun _ _=>False):=
 ⟨⟨by simp,.inr ⟨w.heap.size,0,#[],rfl,bK _,heap_alloc_new w _,bK _,dV _,by simp,by simp⟩⟩,fun i x hx=>by simp at hx,fun i k h=>h.elim,fun i j k _ h=>h.elim,fun k hk=>(by cases hk;exact ⟨bK _,Nat.lt_succ_self _⟩),by simp⟩
theorem App.mv (hE:Ok E)(h:App E w lo hi T v L xs Sf)(hs:w.heap.size≤w'.heap.size)(hb:∀ k,lo≤k→k<hi→w'.heap[k]? = w.heap[k]?):App E w' lo hi T v L xs Sf:=by
 refine ⟨?_,fun i x hx=>?_,h.sub,h.zO,h.blk,eF h.le hs⟩
 ·obtain ⟨h1,h2⟩:=h.own
  refine ⟨h1,?_⟩
  rcases h2 with h2 | ⟨g,cap,cur,rfl,hlo,hg,h3⟩
  ·exact .inl h2
  ·have:=h.blk g rfl
   exact .inr ⟨g,cap,cur,rfl,hlo,(hb g this.1 this.2).trans hg,h3⟩
 ·obtain ⟨us,h1,h2⟩:=h.el i x hx
  exact ⟨us,h1,hE.bT h2 fun k hk=>hb k (h.sub i k hk).1 (h.sub i k hk).2.1⟩
theorem App.call (hE:Ok E)(h:App E w lo hi T v L xs Sf)(hb:Below w.heap.size w w'):App E w' lo hi T v L xs Sf:=h.mv hE hb.size fun k _ hk=>hb.block k (bV hk h.le)
theorem App.isSlice (h:App E w lo hi T v L xs Sf):∃ a cap,v=.slice a L.length cap:=by
 obtain ⟨_,h2⟩:=h.own
 rcases h2 with ⟨rfl,h0⟩ | ⟨g,cap,cur,rfl,_⟩
 ·exact ⟨none,0,by rw [h0]⟩
 ·exact ⟨_,_,rfl⟩
theorem App.done (h:App E w lo hi T v L xs Sf):∃ a cap,v=.slice a L.length cap∧bH E w (Rg lo hi) L a cap:=by
 obtain ⟨hx,h2⟩:=h.own
 rcases h2 with ⟨rfl,h0⟩ | ⟨g,cap,cur,rfl,hlo,hg,hn,hm,hc,ht⟩
 ·have:L = []:=List.eq_nil_of_length_eq_zero h0
  subst this
  exact ⟨none,0,rfl,bK _,dV _,fun h=>absurd h (jH _)⟩
 ·have hb:=h.blk g rfl
  refine ⟨_,cap,rfl,hn,hm,fun _=>⟨g,Sf,rfl,⟨hb.1,hb.2⟩,fun j=>by simp [World.frozen?,hg],fun i k hk=>⟨⟨(h.sub i k hk).1,(h.sub i k hk).2.1⟩,fun e=>(h.sub i k hk).2.2 (by rw [e];rfl)⟩,h.zO,fun i x hi=>?_⟩⟩
  obtain ⟨us,h1,h3⟩:=h.el i x hi
  refine ⟨us,fun j c hj=>?_,h3⟩
  have h4:=h1 j c hj
  rw [←ht] at h4
  have h5:cur.toList[i*E.size+j]? = some c:=by
   rw [List.getElem?_take] at h4
   split at h4
   ·exact h4
   ·cases h4
  exact (cell_of_row w g _ cur _ _ hg).trans (by simpa using h5)
theorem App.app2 {P:Program}(hE:Ok E)(h:App E w lo hi T v L xs Sf){t ty:TypeId}{i:TypeInfo}{z:Value}{bytes:Nat}(ht:P.underlying t=some (.slice T))(hi':P.info? T=some i)(hz:i.zero=some z)(hsize:i.size=E.size)(hby:i.bytes=bytes)(hzs:z.cells.size=E.size)(hpos:0<E.size)
 {x:α} {us:List Value} {Sx:Nat→Prop} {blk c:Nat} (hrow:∀ j u,us[j]? = some u→w.cell? ⟨blk,j,none⟩=some u) (hx:E.ow w Sx x us) (hS:∀ k,Sx k→hi≤k∧k<w.heap.size) (hlo:lo≤hi) (hL:L.length+1≤maxLen) (XI:(L.length+1)*bytes≤140737488355328) :
 ∃ v' w' xs' Eu,(Builtin.append_ #[t,t] ty #[v,.slice (some ⟨blk,0,none⟩) 1 c]).run P w=.ok v' w'∧App E w' lo w'.heap.size T v' (L++[x]) xs' Eu∧w.grownBy w' v.ownBlock∧(∀ k,v'.ownBlock=some k→v.ownBlock=some k∨k=w.heap.size)∧(∀ i k,Eu i k→Sf i k∨Sx k):=by
 have RV:=hE.jG hx
 obtain ⟨v',w',hrun,hown,hg,_,hat⟩:=run_append_own_at (P:=P) w lo t ty T i z E.size bytes ht hi' hz hsize hby hzs hpos v L.length xs h.own ⟨blk,0,none⟩ 1 c us (by rw [RV,Nat.one_mul])
  (fun j u hj=>by
   have hadd:(⟨blk,0,none⟩:Addr).add j=⟨blk,j,none⟩:=by unfold Addr.add;split <;> simp_all
   rw [hadd]
   exact hrow j u hj) (hE.one (hE.qA (B:=w.heap.size) hx fun k hk=>(hS k hk).2)) hL XI (eF hlo h.le)
 have hsz:=hg.size
 have hle:=h.le
 have hxl:xs.length=L.length*E.size:=h.own.1
 have hnb:∀ k,hi≤k→some k≠v.ownBlock:=fun k hk e=>by have:=(h.blk k e.symm).2;omega
 refine ⟨v',w',xs++us,fun q k=>if q=L.length then Sx k else Sf q k,hrun,⟨by rw [List.length_append];exact hown,fun q y hy=>?_,fun q k hk=>?_,fun q r k hqr hk=>?_,fun k hk=>?_,bK _⟩,hg,fun k hk=>?_,fun q k hk=>?_⟩
 ·by_cases hq:q<L.length
  ·rw [List.getElem?_append_left hq] at hy
   obtain ⟨vs,h1,h2⟩:=h.el q y hy
   refine ⟨vs,fun j d hj=>?_,?_⟩
   ·have h3:=h1 j d hj
    rw [List.getElem?_append_left (List.getElem?_eq_some_iff.1 h3).1]
    exact h3
   ·simp only [show ¬q=L.length from by omega,if_false]
    exact hE.bT h2 fun k hk=>hg.block k (bV (h.sub q k hk).2.1 hle) (fun e=>(h.sub q k hk).2.2 e.symm)
  ·rw [List.getElem?_append_right (by omega)] at hy
   have hq2:q=L.length:=by
    have:=(List.getElem?_eq_some_iff.1 hy).1
    simp at this
    omega
   subst hq2
   simp at hy
   subst hy
   refine ⟨us,fun j d hj=>?_,?_⟩
   ·rw [List.getElem?_append_right (by omega),hxl,Nat.add_sub_cancel_left]
    exact hj
   ·simp only [if_true]
    exact hE.bT hx fun k hk=>hg.block k (hS k hk).2 (hnb k (hS k hk).1)
 ·have hne:∀ k,k<w.heap.size→v.ownBlock≠some k→v'.ownBlock≠some k:=fun k hk hn e=>by
   rcases hat with e2 | e2
   ·exact hn (e2 ▸ e)
   ·rw [e2] at e
    cases e
    omega
  by_cases hq:q=L.length
  ·simp only [hq,if_true] at hk
   have:=hS k hk
   exact ⟨by omega,by omega,hne k this.2 (fun e=>hnb k this.1 e.symm)⟩
  ·simp only [hq,if_false] at hk
   have:=h.sub q k hk
   exact ⟨this.1,by omega,hne k (by omega) this.2.2⟩
 ·by_cases hq:q=L.length
  ·simp only [hq,if_true] at hk
   simp only [show ¬r=L.length from by omega,if_false]
   intro h2
   have h3:=(h.sub r k h2).2.1
   have h4:=(hS k hk).1
   omega
  ·simp only [hq,if_false] at hk
   by_cases hr:r=L.length
   ·simp only [hr,if_true]
    intro h2
    have h3:=(h.sub q k hk).2.1
    have h4:=(hS k h2).1
    omega
   ·simp only [hr,if_false]
    exact h.zO q r k hqr hk
 ·rcases hat with e2 | e2
  ·rw [e2] at hk
   have:=h.blk k hk
   omega
  ·rw [e2] at hk
   cases hk
   rcases hown.2 with ⟨hn,h0⟩ | ⟨g,cap,cur,hv,Te,hgg,_⟩
   ·rw [hn] at e2
    cases e2
   ·rw [hv] at e2
    cases e2
    exact ⟨Te,(Array.getElem?_eq_some_iff.1 hgg).1⟩
 ·rcases hat with e2 | e2
  ·exact .inl (e2 ▸ hk)
  ·rw [e2] at hk
   cases hk
   exact .inr rfl
 ·by_cases hq:q=L.length
  ·simp only [hq,if_true] at hk
   exact .inr hk
  ·simp only [hq,if_false] at hk
   exact .inl hk
theorem App.app {P:Program}(hE:Ok E)(h:App E w lo hi T v L xs Sf){t ty:TypeId}{i:TypeInfo}{z:Value}{bytes:Nat}(ht:P.underlying t=some (.slice T))(hi':P.info? T=some i)(hz:i.zero=some z)(hsize:i.size=E.size)(hby:i.bytes=bytes)(hzs:z.cells.size=E.size)(hpos:0<E.size)
 {x:α} {us:List Value} {Sx:Nat→Prop} {blk c:Nat} (hrow:∀ j u,us[j]? = some u→w.cell? ⟨blk,j,none⟩=some u) (hx:E.ow w Sx x us) (hS:∀ k,Sx k→hi≤k∧k<w.heap.size) (hlo:lo≤hi) (hL:L.length+1≤maxLen) (XI:(L.length+1)*bytes≤140737488355328) :
 ∃ v' w' xs' Eu,(Builtin.append_ #[t,t] ty #[v,.slice (some ⟨blk,0,none⟩) 1 c]).run P w=.ok v' w'∧App E w' lo w'.heap.size T v' (L++[x]) xs' Eu∧w.grownBy w' v.ownBlock:=by
 obtain ⟨v',w',xs',Eu,h1,h2,h3,_⟩:=h.app2 (ty:=ty) (c:=c) hE ht hi' hz hsize hby hzs hpos hrow hx hS hlo hL XI
 exact ⟨v',w',xs',Eu,h1,h2,h3⟩
theorem App.mv2 (hE:Ok E)(h:App E w lo hi T v L xs Sf)(hs:w.heap.size≤w'.heap.size)(hb:∀ k,v.ownBlock=some k→w'.heap[k]? = w.heap[k]?)(hb2:∀ i k,Sf i k→w'.heap[k]? = w.heap[k]?):App E w' lo hi T v L xs Sf:=by
 refine ⟨?_,fun i x hx=>?_,h.sub,h.zO,h.blk,eF h.le hs⟩
 ·obtain ⟨h1,h2⟩:=h.own
  refine ⟨h1,?_⟩
  rcases h2 with h2 | ⟨g,cap,cur,rfl,hlo,hg,h3⟩
  ·exact .inl h2
  ·exact .inr ⟨g,cap,cur,rfl,hlo,(hb g rfl).trans hg,h3⟩
 ·obtain ⟨us,h1,h2⟩:=h.el i x hx
  exact ⟨us,h1,hE.bT h2 fun k hk=>hb2 i k hk⟩
end
structure Flat {α:Type}(E:Rp α)(f:α→List Value):Prop where
 rd:∀ {W B x us},E.rd W B x us→us=f x
 ow:∀ (W:World) (S:Nat→Prop) (x:α),E.ow W S x (f x)
theorem qZ {α:Type}{E:Rp α}{f:α→List Value}(hE:Ok E)(hF:Flat E f){P:Program}{L:List α}{a:Option Addr}{cap:Nat}{w:World}{t ty T:TypeId}{i:TypeInfo}{z:Value}{bytes:Nat}(ht:P.underlying t=some (.slice T))(hi:P.info? T=some i)(hz:i.zero=some z)(hsize:i.size=E.size)(hby:i.bytes=bytes)
 (hzs:z.cells.size=E.size) (hpos:0<E.size) (hn:L.length≤maxLen) (hnb:L.length*bytes≤140737488355328) (h:aJ E w w.heap.size L a cap) :
 ∃ a' c' w',(Builtin.append_ #[t,t] ty #[.slice (some ⟨w.heap.size,0,none⟩) 0 0,.slice a L.length cap]).run P (w.alloc (.cells #[] T))=.ok (.slice a' L.length c') w'∧bH E w' (Rg w.heap.size w'.heap.size) L a' c'∧Below w.heap.size w w':=by
 have hbel:Below w.heap.size w (w.alloc (.cells #[] T)):=(aW _ _).alloc (bK _) _
 by_cases h0:L.length=0
 ·have hL:L = []:=List.eq_nil_of_length_eq_zero h0
  subst hL
  exact ⟨_,_,_,E9 ht hi _ a 0 cap,⟨bK _,dV _,fun h=>absurd h (jH _)⟩,hbel⟩
 ·obtain ⟨g,o,rfl,hg,hel⟩:=h.2.2 (by omega)
  have hlen:∀ x∈L,(f x).length=E.size:=fun x hx=>hE.jG (hF.ow w (fun _=>False) x)
  have hfl:∀ M:List α,(∀ x∈M,(f x).length=E.size)→(M.flatMap f).length=M.length*E.size:=fun M hM=>by
   induction M with
   | nil=>simp
   | cons y ys ih=>simp only [List.flatMap_cons,List.length_append,List.length_cons,ih fun x hx=>hM x (by simp [hx]),hM y (by simp),Nat.add_mul,Nat.one_mul];omega
  have hcell:∀ (M:List α) (b:Nat),(∀ x∈M,(f x).length=E.size)→(∀ i x,M[i]? = some x→aR w g (b+i*E.size) (f x))→aR w g b (M.flatMap f):=by
   intro M
   induction M with
   | nil=>exact fun b _ _=>aR.nil
   | cons y ys ih=>
    intro b hM hc
    simp only [List.flatMap_cons]
    refine aR.app.2 ⟨by simpa using hc 0 y rfl,?_⟩
    rw [hM y (by simp)]
    refine ih _ (fun x hx=>hM x (by simp [hx])) fun i x hx=>?_
    have:=hc (i+1) x (by simpa using hx)
    rw [Nat.add_mul,Nat.one_mul] at this
    rw [show b+E.size+i*E.size=b+(i*E.size+E.size) by omega]
    exact this
  have hall:=hcell L o hlen fun i x hx=>by
   obtain ⟨us,hu,hr⟩:=hel i x hx
   rw [←hF.rd hr]
   exact hu
  obtain ⟨v',w',hrun,hown,hgr,_,hat⟩:=run_append_own_at (P:=P) (w.alloc (.cells #[] T)) w.heap.size t ty T i z E.size bytes ht hi hz hsize hby hzs hpos _ 0 [] (App.made E w T).own ⟨g,o,none⟩ L.length cap (L.flatMap f) (hfl L hlen)
   (fun j u hj=>by
    have hadd:(⟨g,o,none⟩:Addr).add j=⟨g,o+j,none⟩:=by unfold Addr.add;split <;> simp_all
    rw [hadd]
    exact (hbel.cell (p:=⟨g,o+j,none⟩) hg).trans (hall j u hj)) (fun u hu=>by
    obtain ⟨x,hx,hu⟩:=List.mem_flatMap.1 hu
    exact hE.one (hE.qA (B:=0) (hF.ow w (fun _=>False) x) (fun k h=>h.elim)) u hu) (by omega) (by simpa using hnb) (by simp)
  rw [Nat.zero_add,List.nil_append] at hown
  have hb2:Below w.heap.size w w':=hbel.trans (by
   refine ⟨hgr.os,hgr.tape,hgr.output,hgr.size,fun k hk=>hgr.block k (by simp;omega) (fun e=>by cases e;exact jH _ hk)⟩)
  rcases hown.2 with ⟨hn0,hL0⟩ | ⟨g',cap',cur,rfl,hlo,hgg,hnc,hm,hc,htk⟩
  ·omega
  ·have hgl:g'<w'.heap.size:=(Array.getElem?_eq_some_iff.1 hgg).1
   refine ⟨_,cap',w',hrun,⟨hnc,hm,fun _=>⟨g',fun _ _=>False,rfl,⟨hlo,hgl⟩,fun j=>by simp [World.frozen?,hgg],fun i k h=>h.elim,fun i j k _ h=>h.elim,fun q x hq=>⟨f x,fun j d hj=>?_,hF.ow _ _ _⟩⟩⟩,hb2⟩
   have hidx:∀ (M:List α) (q:Nat) (x:α),(∀ x∈M,(f x).length=E.size)→M[q]? = some x→∀ j d,(f x)[j]? = some d→(M.flatMap f)[q*E.size+j]? = some d:=by
    intro M
    induction M with
    | nil=>intro q x _ hq;simp at hq
    | cons y ys ih=>
     intro q x hM hq j d hj
     simp only [List.flatMap_cons]
     cases q with
     | zero=>
      simp at hq
      subst hq
      rw [Nat.zero_mul,Nat.zero_add,List.getElem?_append_left (List.getElem?_eq_some_iff.1 hj).1]
      exact hj
     | succ q=>
      have hy:=hM y (by simp)
      rw [List.getElem?_append_right (by rw [hy,Nat.add_mul,Nat.one_mul];omega),hy,Nat.add_mul,Nat.one_mul,show q*E.size+E.size+j-E.size=q*E.size+j by omega]
      exact ih q x (fun x hx=>hM x (by simp [hx])) (by simpa using hq) j d hj
   have h4:=hidx L q x hlen hq j d hj
   rw [←htk] at h4
   have h5:cur.toList[q*E.size+j]? = some d:=by
    rw [List.getElem?_take] at h4
    split at h4
    ·exact h4
    ·cases h4
   exact (cell_of_row w' g' _ cur _ _ hgg).trans (by simpa using h5)
theorem mV:Flat av (fun x=>[.int .i64 x.1,.int .i64 x.2]):=⟨fun {W B x us} h=>by obtain ⟨a,b⟩:=x;exact gF h,fun W S x=>by obtain ⟨a,b⟩:=x;exact pY⟩
theorem abJ:(av).size=2:=rfl
theorem Jf {L:List (ay)}{a:Option Addr}{cap:Nat}{W:World}{S:Nat→Prop}{k:Int}(h0:0≤k)(h1:k+(bD (av).cm L:Nat)≤4611686018427387904)(hS:∀ i,S i→i<W.heap.size)(h:bH av W S L a cap):Calls Tryz.prog 151 #[.slice a L.length cap,.int .i64 k] W (jD av S L a cap k W):=by
 have hcap:=h.1
 have hmax:=h.2.1
 have hn:L.length≤9223372036854775807:=by have h2:=h.2.1;unfold maxLen at h2;omega
 have H:=ak h
 have HCAP:=ak hcap
 have qP:=ak hmax
 clear h hcap hmax
 rcases Nat.eq_zero_or_pos L.length with hz | hpos
 ·have HR:=ak (jD.none_ (k:=k) H.out hz)
  have HZ:=ak hz
  rw [hz]
  clear hz
  go_enter Tryz.func151,Tryz.ntmps151
  go_wp2
  go_loopw [5,1] (fun i q wr=>i=.int .i64 0∧q=.int .i64 k∧wr=W) (fun i _ _=>0)
  case atStart=>exact ⟨rfl,rfl,rfl⟩
  case round=>
   obtain ⟨rfl,rfl,rfl⟩:=hrel
   go_wp2
   go_ret
   exact HR.out
 ·obtain ⟨g,Sf,rfl,hrow⟩:=H.out.row hpos
  have HM:=ak (xG.start (k:=k) hrow)
  clear hrow
  go_enter Tryz.func151,Tryz.ntmps151
  go_wp2
  go_loopw [5,1] (fun i q wr=>∃ j:Nat,j≤L.length∧i=.int .i64 j∧∃ (M:List (ay)) (z:Int),q=.int .i64 z∧xG av W wr S L g Sf k z j M) (fun i _ _=>L.length-(intOf i).toNat)
  case atStart=>exact ⟨0,dV _,rfl,_,_,rfl,HM.out⟩
  case round=>
   obtain ⟨j,hj,rfl,M,z,rfl,hM⟩:=hrel
   have je:=ak hM
   have aj:∀ i,S i→i<wr.heap.size:=fun i hi=>bV (hS i hi) hM.off.size
   have Aa:=ak aj
   by_cases hlt:j<L.length
   ·obtain ⟨⟨x0,x1⟩,hx⟩:=aM hlt
    have HX:=ak hx
    have hcm:=fB (av).cm hx
    have hle:=dh (av).cm L (j+1)
    have qL:=hM.num
    obtain ⟨us,hu,hr⟩:=hM.el hx
    obtain rfl:=jQ hr
    have hgl:g<wr.heap.size:=aj g hM.row.own
    have hi0:(0:Int)≤(j:Int):=eu _
    have hi1:(j:Int)<(L.length:Int):=by omega
    have hz0:0≤z:=by omega
    obtain ⟨e0,e1⟩:=ny (a:=j*2) hu rfl
    have s0:=hM.row.soft (j*2)
    have s1:=hM.row.soft (j*2+1)
    have hcx:av.cm (x0,x1)=2:=by first | (simp only [av,Pr,I,atom,Sl];done) | (simp only [av,Pr,I,atom,Sl];omega)
    rw [hcm,hcx] at hle
    have hb1:z+((2:Nat):Int)≤4611686018427387904:=by omega
    have hne:¬Sf j g:=fun hg=>(je.out.row.sub j g hg).2 rfl
    have Pm:=ak (ni.refl wr g (j*2) ((j+1)*2) (Sf j))
    have J7:=ak (Off.refl S wr)
    clear hM aj hx hu hcm hle qL
    have hc:=dn g [.int .i64 (z),.int .i64 (z+1)] wr (j*2) (fun p hp=>by
     match p,hp with
     | 0,_=>exact ⟨_,by simpa [Nat.add_assoc] using e0⟩
     | 1,_=>exact ⟨_,by simpa [Nat.add_assoc] using e1⟩
     | _+2,hp=>simp at hp;omega)
    have d0:(putCells wr g (j*2) [.int .i64 (z),.int .i64 (z+1)]).cell? ⟨g,j*2,none⟩=some (.int .i64 (z)):=by simpa [Nat.add_assoc] using hc 0 _ rfl
    have d1:(putCells wr g (j*2) [.int .i64 (z),.int .i64 (z+1)]).cell? ⟨g,j*2+1,none⟩=some (.int .i64 (z+1)):=by simpa [Nat.add_assoc] using hc 1 _ rfl
    have t0:(putCells wr g (j*2) [.int .i64 (z),.int .i64 (z+1)]).frozen? ⟨g,j*2,none⟩=false:=(aH g _ _ wr _).trans s0
    have t1:(putCells wr g (j*2) [.int .i64 (z),.int .i64 (z+1)]).frozen? ⟨g,j*2+1,none⟩=false:=(aH g _ _ wr _).trans s1
    have J4:=ak (Pm.out.trans (ni.put wr (Sf j) (g:=g) (o:=j*2) (cs:=[.int .i64 (z),.int .i64 (z+1)]) ⟨by omega,by first | (simp;done) | (simp;omega)⟩))
    have Ad:=ak (J7.out.trans ((dO g [.int .i64 (z),.int .i64 (z+1)] wr (j*2)).more (fun x e=>by rw [e];exact je.out.row.own)))
    clear hc
    have hcf:aR (putCells wr g (j*2) [.int .i64 (z),.int .i64 (z+1)]) g (j*2) [.int .i64 (z),.int .i64 (z+1)]:=aR.cons.2 ⟨d0,aR.cons.2 ⟨d1,aR.nil⟩⟩
    have iY:=ak (je.out.step au (w':=(putCells wr g (j*2) [.int .i64 (z),.int .i64 (z+1)])) (y:=(z,z+1)) (q':=z+1+1) Aa.out HX.out J4.out Ad.out hcf (pY) (Rf) (by rw [hcx];omega))
    clear d0 t0 d1 t1
    have hzb:0≤z+1+1∧z+1+1≤4611686018427387904:=by omega
    clear hcf hcx
    go_wp2
    go_roundw
    case rel=>exact ⟨j+1,by omega,by go_num,_,_,rfl,by first | exact iY.out | simpa [putCells,Nat.add_assoc,Int.add_assoc] using iY.out⟩
    case measure=>simp [intOf];omega
   ·obtain rfl:j=L.length:=by omega
    have HR:=ak (je.out.done HCAP.out qP.out)
    clear hM aj
    go_wp2
    go_ret
    exact HR.out
theorem wV:((Sl av)).size=1:=rfl
theorem Fx {L:List (List (ay))}{a:Option Addr}{cap:Nat}{W:World}{S:Nat→Prop}{k:Int}(h0:0≤k)(h1:k+(bD ((Sl av)).cm L:Nat)≤4611686018427387904)(hS:∀ i,S i→i<W.heap.size)(h:bH (Sl av) W S L a cap):Calls Tryz.prog 87 #[.slice a L.length cap,.int .i64 k] W (jD (Sl av) S L a cap k W):=by
 have hcap:=h.1
 have hmax:=h.2.1
 have hn:L.length≤9223372036854775807:=by have h2:=h.2.1;unfold maxLen at h2;omega
 have H:=ak h
 have HCAP:=ak hcap
 have qP:=ak hmax
 clear h hcap hmax
 rcases Nat.eq_zero_or_pos L.length with hz | hpos
 ·have HR:=ak (jD.none_ (k:=k) H.out hz)
  have HZ:=ak hz
  rw [hz]
  clear hz
  go_enter Tryz.func87,Tryz.ntmps87
  go_wp2
  go_loopw [5,1] (fun i q wr=>i=.int .i64 0∧q=.int .i64 k∧wr=W) (fun i _ _=>0)
  case atStart=>exact ⟨rfl,rfl,rfl⟩
  case round=>
   obtain ⟨rfl,rfl,rfl⟩:=hrel
   go_wp2
   go_ret
   exact HR.out
 ·obtain ⟨g,Sf,rfl,hrow⟩:=H.out.row hpos
  have HM:=ak (xG.start (k:=k) hrow)
  clear hrow
  go_enter Tryz.func87,Tryz.ntmps87
  go_wp2
  go_loopw [5,1] (fun i q wr=>∃ j:Nat,j≤L.length∧i=.int .i64 j∧∃ (M:List (List (ay))) (z:Int),q=.int .i64 z∧xG (Sl av) W wr S L g Sf k z j M) (fun i _ _=>L.length-(intOf i).toNat)
  case atStart=>exact ⟨0,dV _,rfl,_,_,rfl,HM.out⟩
  case round=>
   obtain ⟨j,hj,rfl,M,z,rfl,hM⟩:=hrel
   have je:=ak hM
   have aj:∀ i,S i→i<wr.heap.size:=fun i hi=>bV (hS i hi) hM.off.size
   have Aa:=ak aj
   by_cases hlt:j<L.length
   ·obtain ⟨x,hx⟩:=aM hlt
    have HX:=ak hx
    have hcm:=fB ((Sl av)).cm hx
    have hle:=dh ((Sl av)).cm L (j+1)
    have qL:=hM.num
    obtain ⟨us,hu,hr⟩:=hM.el hx
    obtain ⟨a1,c1,rfl,uH⟩:=hr
    have hgl:g<wr.heap.size:=aj g hM.row.own
    have hi0:(0:Int)≤(j:Int):=eu _
    have hi1:(j:Int)<(L.length:Int):=by omega
    have hz0:0≤z:=by omega
    have e0:wr.cell? ⟨g,j,none⟩=some (.slice a1 x.length c1):=by simpa [wV] using hu 0 _ rfl
    have hcx:((Sl av)).cm x=bD (av).cm x:=rfl
    have hb1:z+(bD (av).cm x:Nat)≤4611686018427387904:=by rw [hcm,hcx] at hle;omega
    have zn:=ak (fun i (hi:Sf j i)=>Aa.out i (je.out.row.sub j i hi).1)
    have HK:=ak uH
    have Pt:=ak e0
    clear hM aj hx hu hcm hle qL uH
    go_wp2_with fail
    refine (Jf hz0 hb1 zn.out HK.out).mono ?_
    intro e w1 h
    obtain ⟨y,z1,rfl,hyl,hmm,hz1,how,hoff⟩:=iO h
    have hne:¬Sf j g:=fun hg=>(je.out.row.sub j g hg).2 rfl
    have iY:=ak (je.out.step (aZ au) (w':=w1) (y:=y) (us:=[.slice a1 y.length c1]) (q':=z1) Aa.out HX.out (ni.off hoff hgl hne) (hoff.more (fun i hi=>(je.out.row.sub j i hi).1)) (aR.cons.2 ⟨by rw [hyl];exact (World.cell?_of_block (a:=⟨g,_,none⟩) (hoff.block g hgl hne)).trans (by simpa [wV] using Pt.out),aR.nil⟩) ⟨a1,c1,rfl,how⟩ hmm hz1)
    have hz2:z1≤4611686018427387904:=by omega
    clear h hyl hmm how hoff hne hz1
    go_wp2
    go_roundw
    case rel=>exact ⟨j+1,by omega,by go_num,_,_,rfl,iY.out⟩
    case measure=>simp [intOf];omega
   ·obtain rfl:j=L.length:=by omega
    have HR:=ak (je.out.done HCAP.out qP.out)
    clear hM aj
    go_wp2
    go_ret
    exact HR.out
theorem I8:(av).size=2:=rfl
theorem Jo {L:List (ay)}{a:Option Addr}{cap:Nat}{W:World}{k k':Int}(h0:0≤k)(h1:k'≤4611686018427387904)(hm:jC av L k k')(h:aJ av W W.heap.size L a cap):Calls Tryz.prog 219 #[.slice a L.length cap,.int .i64 k] W (nN k' W):=by
 have hn:L.length≤9223372036854775807:=by have h1:=h.1;have h2:=h.2.1;unfold maxLen at h2;omega
 have H:=ak h
 have HM:=ak hm
 clear h hm
 go_enter Tryz.func219,Tryz.ntmps219
 go_wp2
 go_loopw [5,1] (fun i q wr=>∃ j:Nat,j≤L.length∧i=.int .i64 j∧(∃ z:Int,q=.int .i64 z∧0≤z∧jC av (L.drop j) z k')∧Below W.heap.size W wr) (fun i _ _=>L.length-(intOf i).toNat)
 case atStart=>exact ⟨0,dV _,rfl,⟨k,rfl,h0,HM.out⟩,aW _ _⟩
 case round=>
  obtain ⟨j,hj,rfl,⟨z,rfl,hz,hmz⟩,hB⟩:=hrel
  have HB:=ak hB
  have hsz:=hB.size
  by_cases hlt:j<L.length
  ·obtain ⟨⟨x0,x1⟩,hx⟩:=aM hlt
   obtain ⟨k1,hxm,hmn⟩:=jX hx hmz
   have hzb:=eG eY hmn
   have hxb:=eY _ _ _ hxm
   obtain ⟨g,o,us,rfl,hg,hu,hr⟩:=(H.out.below au hB).at_ hx
   have FZ:=ak hmn
   have hi0:(0:Int)≤(j:Int):=eu _
   have hi1:(j:Int)<(L.length:Int):=by omega
   obtain rfl:=gF hr
   obtain ⟨rfl,rfl,hk1⟩:=Ri hxm
   have e0:=cO hu 0 rfl
   have e1:=cO hu 1 rfl
   simp only [I8] at e0 e1
   simp only [←Nat.add_assoc,Nat.add_zero] at e0 e1
   have hfin:k1≤4611686018427387904:=by omega
   have J6:=ak hk1
   clear hB hx hu hmz hmn hxm
   have HB2:=ak HB.out
   go_wp2
   go_roundw
   case rel=>exact ⟨j+1,by omega,by go_num,⟨_,rfl,by omega,by rw [←J6.out];exact FZ.out⟩,HB2.out⟩
   case measure=>simp [intOf];omega
  ·obtain rfl:j=L.length:=by omega
   have HE:=ak (lD hmz)
   clear hmz hB
   go_wp2
   go_ret
   exact ⟨by rw [HE.out];rfl,HB.out⟩
theorem Fe:((Sl av)).size=1:=rfl
theorem FE {L:List (List (ay))}{a:Option Addr}{cap:Nat}{W:World}{k k':Int}(h0:0≤k)(h1:k'≤4611686018427387904)(hm:jC (Sl av) L k k')(h:aJ (Sl av) W W.heap.size L a cap):Calls Tryz.prog 152 #[.slice a L.length cap,.int .i64 k] W (nN k' W):=by
 have hn:L.length≤9223372036854775807:=by have h1:=h.1;have h2:=h.2.1;unfold maxLen at h2;omega
 have H:=ak h
 have HM:=ak hm
 clear h hm
 go_enter Tryz.func152,Tryz.ntmps152
 go_wp2
 go_loopw [5,1] (fun i q wr=>∃ j:Nat,j≤L.length∧i=.int .i64 j∧(∃ z:Int,q=.int .i64 z∧0≤z∧jC (Sl av) (L.drop j) z k')∧Below W.heap.size W wr) (fun i _ _=>L.length-(intOf i).toNat)
 case atStart=>exact ⟨0,dV _,rfl,⟨k,rfl,h0,HM.out⟩,aW _ _⟩
 case round=>
  obtain ⟨j,hj,rfl,⟨z,rfl,hz,hmz⟩,hB⟩:=hrel
  have HB:=ak hB
  have hsz:=hB.size
  by_cases hlt:j<L.length
  ·obtain ⟨x,hx⟩:=aM hlt
   obtain ⟨k1,hxm,hmn⟩:=jX hx hmz
   have hzb:=eG (AU eY) hmn
   have hxb:=(AU eY) _ _ _ hxm
   obtain ⟨g,o,us,rfl,hg,hu,hr⟩:=(H.out.below (aZ au) hB).at_ hx
   have FZ:=ak hmn
   have hi0:(0:Int)≤(j:Int):=eu _
   have hi1:(j:Int)<(L.length:Int):=by omega
   obtain ⟨a1,c1,rfl,uH⟩:=hr
   have e0:wr.cell? ⟨g,o+j,none⟩=some (.slice a1 x.length c1):=by simpa [Fe] using hu 0 _ rfl
   have HK:=ak (uH.more au hsz)
   have HXM:=ak (show jC av x z k1 from hxm)
   have hk1:k1≤4611686018427387904:=by omega
   have hk0:0≤k1:=by omega
   clear hB hx hu hmz hmn hxm uH
   go_wp2_with fail
   refine (Jo hz hk1 HXM.out HK.out).mono ?_
   intro e w1 h
   obtain ⟨rfl,hb⟩:=eU h
   have HB2:=ak (HB.out.trans (hb.mono hsz))
   clear h hb
   go_wp2
   go_roundw
   case rel=>exact ⟨j+1,by omega,by go_num,⟨_,rfl,by omega,FZ.out⟩,HB2.out⟩
   case measure=>simp [intOf];omega
  ·obtain rfl:j=L.length:=by omega
   have HE:=ak (lD hmz)
   clear hmz hB
   go_wp2
   go_ret
   exact ⟨by rw [HE.out];rfl,HB.out⟩
theorem zY {α:Type}{E:Rp α}(hE:Ok E){d:α}{cs:List Value}{w w':World}(h:E.rd w w.heap.size d cs)(hb:Below w.heap.size w w'):E.rd w' w'.heap.size d cs:=hE.jy (hE.fG h hb) hb.size
def Xr {α:Type}(E:Rp α)(w:World)(S:Nat→Prop)(d:α)(cs:List Value):Prop:=E.ow w S d cs∧∀ k,S k→k<w.heap.size
theorem Xr.mv {α:Type}{E:Rp α}(hE:Ok E){w w':World}{S:Nat→Prop}{d:α}{cs:List Value}(h:Xr E w S d cs)(hb:Below w.heap.size w w'):Xr E w' S d cs:=
 ⟨hE.bT h.1 fun k hk=>hb.block k (h.2 k hk),fun k hk=>bV (h.2 k hk) hb.size⟩
theorem Xr.off {α:Type}{E:Rp α}(hE:Ok E){w w':World}{S T:Nat→Prop}{d:α}{cs:List Value}(h:Xr E w S d cs)(ho:Off T w w')(hd:∀ k,S k→¬T k):Xr E w' S d cs:=
 ⟨hE.bT h.1 fun k hk=>ho.block k (h.2 k hk) (hd k hk),fun k hk=>bV (h.2 k hk) ho.size⟩
theorem Xr.rd {α:Type}{E:Rp α}(hE:Ok E){w:World}{S:Nat→Prop}{d:α}{cs:List Value}(h:Xr E w S d cs):E.rd w w.heap.size d cs:=hE.qA h.1 h.2
theorem pV {α:Type}{E:Rp α}{w:World}{m:Nat}{d:α}{cs:List Value}(h:E.ow w (Rg m w.heap.size) d cs):Xr E w (Rg m w.heap.size) d cs:=⟨h,fun k hk=>hk.2⟩
def Uw {α:Type}(E:Rp α)(d:α)(cs:List Value)(S:Nat→Prop)(k:Int)(W:World)(e:Ending)(w':World):Prop:=
 ∃ d' z,e=.returned (.int .i64 z)∧E.mv d' k z∧z=k+(E.cv d:Nat)∧E.ow w' S d' cs∧Off S W w'
theorem BM {α:Type}{E:Rp α}{d:α}{cs:List Value}{S:Nat→Prop}{k:Int}{W:World}{e:Ending}{w':World}(h:Uw E d cs S k W e w') :
 ∃ d' z,e=.returned (.int .i64 z)∧E.mv d' k z∧z=k+(E.cv d:Nat)∧E.ow w' S d' cs∧Off S W w':=h
end
end aQ
end Go.Proofs.YtlhfiapfncikdaaGreatDoor
