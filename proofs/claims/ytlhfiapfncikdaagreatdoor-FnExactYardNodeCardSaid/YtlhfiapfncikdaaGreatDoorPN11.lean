import Derived.Test.YtlhfiapfncikdaaGreatDoorPN1
import Derived.Test.YtlhfiapfncikdaaGreatDoorPN10
set_option linter.unusedVariables false
set_option linter.unusedSimpArgs false
set_option maxRecDepth 100000
set_option maxHeartbeats 3200000
namespace Go.Proofs.YtlhfiapfncikdaaGreatDoor
namespace aQ
section
open Go.RowKit bN bO bJ bQ
def gt (L:List dJ)(i:Nat):Int×Int:=(L[i]?).getD (0,0)
theorem adI {L:List dJ}{i:Nat}{x:dJ}(h:L[i]? = some x):gt L i=x:=by unfold gt;rw [h];rfl
theorem aaF {W:World}{B:Nat}{L:List dJ}{a:Option Addr}{cap:Nat}(h:aJ bE W B L a cap)(hB:B≤W.heap.size):PA W a L.length (gt L):=fun i hi=>by
 obtain ⟨x,hx⟩:=aM hi
 obtain ⟨g,o,us,rfl,hg,hu,hr⟩:=h.at_ hx
 obtain ⟨x0,x1⟩:=x
 obtain rfl:=rU hr
 rw [adI hx]
 exact ⟨g,o,rfl,bV hg hB,by simpa [fE] using hu 0 _ rfl,by simpa [fE,Nat.add_assoc] using hu 1 _ rfl⟩
def PN (x:aP):Prop:=dD x.1 1 3=true∧x.2.length≤4∧Pj x.2.length (gt x.2)
def qM (L:List aP):Prop:=(1≤L.length∧L.length≤6)∧∀ x∈L,PN x
open Classical in
noncomputable def iU (L:List aP):Bool:=decide (qM L)
open Classical in
theorem gG {L:List aP}:iU L=true↔qM L:=by unfold iU;simp
theorem Hg {P:Prop}{b:Bool}{w w':World}{e:Ending}(hb:b=true↔P)(h:jf P w e w'):sS b w e w':=by
 obtain ⟨c,rfl,hc,hB⟩:=h
 obtain rfl:c=b:=by
  cases c <;> cases b <;> first | rfl | exact absurd (hc.2 (hb.1 rfl)) (by decide) | exact absurd (hb.2 (hc.1 rfl)) (by decide)
 exact ⟨rfl,hB⟩
theorem qR {α:Type}{E:Rp α}(hE:Ok E){L:List α}{a:Option Addr}{cap:Nat}{w w':World}(h:aJ E w w.heap.size L a cap)(hb:Below w.heap.size w w'):aJ E w' w'.heap.size L a cap:=(h.below hE hb).more hE hb.size
def PL (L:List aP)(k:Nat):Prop:=∀ i x,i<k→L[i]? = some x→PN x
theorem DX {L:List aP}:PL L 0:=fun i x h=>absurd h (gZ _)
theorem DY {L:List aP}{k:Nat}{x:aP}(h:PL L k)(hx:L[k]? = some x)(hk:PN x):PL L (k+1):=fun i y hi hy=>by
 rcases Nat.lt_succ_iff_lt_or_eq.1 hi with h1 | h1
 ·exact h i y h1 hy
 ·subst h1;rw [hx] at hy;cases hy;exact hk
theorem BL {L:List aP}(h1:1≤L.length)(h2:L.length≤6)(h:PL L L.length):qM L:=⟨⟨h1,h2⟩,fun x hx=>by
 obtain ⟨i,hi,e⟩:=List.getElem_of_mem hx
 exact h i x hi (by rw [List.getElem?_eq_getElem hi,e])⟩
theorem jR {L:List aP}(h:qM L){k:Nat}{x:aP}(hx:L[k]? = some x):PN x:=h.2 x (List.mem_of_getElem? hx)
end
end aQ
namespace bJ
section
open Go.RowKit bQ
theorem uz (a b:Int)(w:World):(Go.method 457 61 (.agg #[.int .i64 a,.int .i64 b]) "loop.example/g00658/impl.before").run Tryz.prog w=.ok (311,.agg #[.int .i64 a,.int .i64 b]) w:=by kernel_rfl
def Ord (n:Nat)(f:Nat→Int×Int):Prop:=∀ j,j+1<n→(f j).2≤(f (j+1)).1
theorem Ld (qa:Option Addr)(n qc:Nat)(f:Nat→Int×Int)(w:World)(hn:n≤1048576)(h1:PA w qa n f) :
 Calls Tryz.prog 233 #[.slice qa n qc] w (jf (Ord n f) w):=by
 have H1:=ak h1
 clear h1
 go_enter Tryz.func233,Tryz.ntmps233
 go_wp2
 go_loopw [3] (fun i wr=>∃ k:Nat,(k≤n∨k=1)∧1≤k∧i=.int .i64 k∧(∀ j,j+1<k→(f j).2≤(f (j+1)).1)∧Below w.heap.size w wr) (fun i _=>n-(intOf i).toNat)
 case atStart=>exact ⟨1,.inr rfl,by omega,rfl,fun j h=>by omega,aW _ _⟩
 case round=>
  obtain ⟨k,hk,hk1,rfl,hall,hb⟩:=hrel
  have HA:=ak hall
  have HB:=ak hb
  have hsz:=hb.size
  clear hall
  by_cases hlt:k<n
  ·obtain ⟨j,rfl⟩:∃ j,k=j+1:=⟨k-1,by omega⟩
   obtain ⟨g,o,rfl,hgl,hc0,hc1⟩:=(H1.out.bel hb) _ hlt
   obtain ⟨g2,o2,e2,_,hd0,hd1⟩:=(H1.out.bel HB.out) j (by omega)
   cases e2
   have hj0:(0:Int)≤(j:Int):=eu _
   have hj1:(j:Int)<(n:Int):=by omega
   have YP:IntKind.i64.wrap (j:Int)=(j:Int):=gK _ (by omega)
   have YR:(0:Int)≤(j:Int)+1:=by omega
   have YQ:(j:Int)+1<(n:Int):=by omega
   have XF:IntKind.i64.wrap ((j:Int)+1-1)=(j:Int):=(by rw [show (j:Int)+1-1=(j:Int) by omega];exact gK _ (by omega))
   clear hb
   have hm:=uz (f j).1 (f j).2
   have hrs:=fun W=>zk (f j).1 (f j).2 (f (j+1)).1 (f (j+1)).2 W
   by_cases hlo:(f j).2≤(f (j+1)).1
   ·have kX:=ak (show ∀ i,i+1<j+2→(f i).2≤(f (i+1)).1 from fun i hi=>by
     by_cases e:i=j
     ·subst e;exact hlo
     ·exact HA.out i (by omega))
    rw [decide_eq_true hlo] at hrs
    go_wp2_with fail
    refine dX (S:=(fun W=>W.cell? ⟨g,o+j*2,none⟩=some (.int .i64 (f j).1)∧W.cell? ⟨g,o+j*2+1,none⟩=some (.int .i64 (f j).2)∧W.cell? ⟨g,o+(j+1)*2,none⟩=some (.int .i64 (f (j+1)).1)∧W.cell? ⟨g,o+(j+1)*2+1,none⟩=some (.int .i64 (f (j+1)).2)∧wr.heap.size≤W.heap.size∧Below w.heap.size w W)) (by kernel_rfl) (⟨hd0,hd1,hc0,hc1,bK _,HB.out.drew⟩) (fun ah=>?_)
    refine tk 0 ah ?_
    refine tk 1 ah ?_
    refine tk 2 ah ?_
    refine tk 3 ah ?_
    refine tk 4 ah ?_
    refine tk 5 ah ?_
    refine tk 6 ah ?_
    refine tk 7 ah ?_
    refine tk 8 ah ?_
    refine tk 9 ah ?_
    refine dw 10 (fun K hK=>?_)
    go_simp
    go_at_call 311;refine (hrs _).mono ?_;rintro e w1 ⟨rfl,hb⟩
    refine hK.out _ _ (⟨(hb.cell (p:=⟨g,o+j*2,none⟩) (bV hgl ah.2.2.2.2.1)).trans ah.1,(hb.cell (p:=⟨g,o+j*2+1,none⟩) (bV hgl ah.2.2.2.2.1)).trans ah.2.1,(hb.cell (p:=⟨g,o+(j+1)*2,none⟩) (bV hgl ah.2.2.2.2.1)).trans ah.2.2.1,(hb.cell (p:=⟨g,o+(j+1)*2+1,none⟩) (bV hgl ah.2.2.2.2.1)).trans ah.2.2.2.1,eF ah.2.2.2.2.1 hb.size,ah.2.2.2.2.2.trans (hb.mono (eF hsz ah.2.2.2.2.1))⟩) (fun ah=>?_)
    clear hK K
    refine tk 11 ah ?_
    refine dQ ?_
    have HF:=ak ah.2.2.2.2.2
    clear ah
    go_wp2
    go_roundw
    case rel=>exact ⟨j+2,by omega,by omega,by go_num,kX.out,HF.out⟩
    case measure=>simp [intOf];omega
   ·have Hno:=ak (show ¬Ord n f from fun h=>hlo (h j hlt))
    rw [decide_eq_false hlo] at hrs
    go_wp2_with fail
    refine dX (S:=(fun W=>W.cell? ⟨g,o+j*2,none⟩=some (.int .i64 (f j).1)∧W.cell? ⟨g,o+j*2+1,none⟩=some (.int .i64 (f j).2)∧W.cell? ⟨g,o+(j+1)*2,none⟩=some (.int .i64 (f (j+1)).1)∧W.cell? ⟨g,o+(j+1)*2+1,none⟩=some (.int .i64 (f (j+1)).2)∧wr.heap.size≤W.heap.size∧Below w.heap.size w W)) (by kernel_rfl) (⟨hd0,hd1,hc0,hc1,bK _,HB.out.drew⟩) (fun ah=>?_)
    refine tk 0 ah ?_
    refine tk 1 ah ?_
    refine tk 2 ah ?_
    refine tk 3 ah ?_
    refine tk 4 ah ?_
    refine tk 5 ah ?_
    refine tk 6 ah ?_
    refine tk 7 ah ?_
    refine tk 8 ah ?_
    refine tk 9 ah ?_
    refine dw 10 (fun K hK=>?_)
    go_simp
    go_at_call 311;refine (hrs _).mono ?_;rintro e w1 ⟨rfl,hb⟩
    refine hK.out _ _ (⟨(hb.cell (p:=⟨g,o+j*2,none⟩) (bV hgl ah.2.2.2.2.1)).trans ah.1,(hb.cell (p:=⟨g,o+j*2+1,none⟩) (bV hgl ah.2.2.2.2.1)).trans ah.2.1,(hb.cell (p:=⟨g,o+(j+1)*2,none⟩) (bV hgl ah.2.2.2.2.1)).trans ah.2.2.1,(hb.cell (p:=⟨g,o+(j+1)*2+1,none⟩) (bV hgl ah.2.2.2.2.1)).trans ah.2.2.2.1,eF ah.2.2.2.2.1 hb.size,ah.2.2.2.2.2.trans (hb.mono (eF hsz ah.2.2.2.2.1))⟩) (fun ah=>?_)
    clear hK K
    refine tk 11 ah ?_
    refine dQ ?_
    have HF:=ak ah.2.2.2.2.2
    clear ah
    go_wp2
    go_ret
    exact aB Hno.out HF.out
  ·have Hy:=ak (show Ord n f from fun j hj=>HA.out j (by omega))
   clear hb
   go_wp2
   go_ret
   exact bM Hy.out HB.out
theorem abO {n:Nat}{f:Nat→Int×Int}(h:n≤20)(h1:∀ i,i<n→zX (f i).1 (f i).2=true)(h2:Ord n f):Pj n f:=
 ⟨h,fun i hi=>⟨h1 i hi,fun h0=>by
  have:=h2 (i-1) (by omega)
  rwa [show i-1+1=i by omega] at this⟩⟩
theorem abU {n:Nat}{f:Nat→Int×Int}(h:Pj n f):Ord n f:=fun j hj=>(h.2 (j+1) hj).2 (Nat.succ_pos _)
theorem KQ (qa:Option Addr)(n qc:Nat)(f:Nat→Int×Int)(w:World)(hn:n≤1048576)(h1:PA w qa n f) :
 Calls Tryz.prog 192 #[.slice qa n qc] w (jf (Pj n f) w):=by
 have H1:=ak h1
 clear h1
 by_cases h20:n≤20
 ·have hd:decide ((20:Int)<(n:Int))=false:=dS (by omega)
  go_enter Tryz.func192,Tryz.ntmps192
  go_wp2
  go_loopw [10] (fun i wr=>∃ k:Nat,k≤n∧i=.int .i64 k∧(∀ j,j<k→zX (f j).1 (f j).2=true)∧Below w.heap.size w wr) (fun i _=>n-(intOf i).toNat)
  case atStart=>exact ⟨0,dV _,rfl,fun j h=>absurd h (gZ _),aW _ _⟩
  case round=>
   obtain ⟨k,hk,rfl,hall,hb⟩:=hrel
   have HA:=ak hall
   have HB:=ak hb
   have hsz:=hb.size
   clear hall
   by_cases hlt:k<n
   ·obtain ⟨g,o,rfl,hgl,hc0,hc1⟩:=(H1.out.bel hb) _ hlt
    have hi0:(0:Int)≤(k:Int):=eu _
    have hi1:(k:Int)<(n:Int):=by omega
    have hrs:=fun W=>iN (f k).1 (f k).2 W
    clear hb
    cases hr:zX (f k).1 (f k).2 with
    | false=>
     have Hno:=ak (show ¬Pj n f from fun h=>by have:=(h.2 k hlt).1;rw [hr] at this;cases this)
     rw [hr] at hrs
     clear hr
     go_wp2_with (go_at_call 177;refine (hrs _).mono ?_;rintro e w1 ⟨rfl,hb⟩;have HB2:=ak (Below.trans (B:=w.heap.size) (a:=w) (by repeat (first | exact HB.out | refine Below.drew ?_ | refine Below.setCell ?_ (by first | omega | (simp <;> omega)) _ | refine Below.alloc ?_ (by first | omega | (simp <;> omega)) _)) (hb.mono (by first | omega | (simp <;> omega))));clear hb)
     go_ret
     exact aB Hno.out HB2.out
    | true=>
     have kX:=ak (iT HA.out hr)
     rw [hr] at hrs
     clear hr
     go_wp2_with (go_at_call 177;refine (hrs _).mono ?_;rintro e w1 ⟨rfl,hb⟩;have HB2:=ak (Below.trans (B:=w.heap.size) (a:=w) (by repeat (first | exact HB.out | refine Below.drew ?_ | refine Below.setCell ?_ (by first | omega | (simp <;> omega)) _ | refine Below.alloc ?_ (by first | omega | (simp <;> omega)) _)) (hb.mono (by first | omega | (simp <;> omega))));clear hb)
     go_roundw
     case rel=>exact ⟨k+1,by omega,by go_num,kX.out,HB2.out⟩
     case measure=>simp [intOf];omega
   ·clear hb
    obtain rfl:k=n:=by omega
    go_wp2_with fail
    refine (Ld qa k qc f _ hn (H1.out.bel HB.out)).mono ?_
    intro e w1 h
    obtain ⟨b,rfl,hb,hB⟩:=bq h
    have HB2:=ak (HB.out.trans (hB.mono hsz))
    have Hb:=ak (show b=true↔Pj k f from ⟨fun h=>abO h20 HA.out (hb.1 h),fun h=>hb.2 (abU h)⟩)
    clear h hB hb
    go_wp2
    go_ret
    exact ⟨b,rfl,Hb.out,HB2.out⟩
 ·have Hno:=ak (show ¬Pj n f from fun h=>h20 h.1)
  have hd:decide ((20:Int)<(n:Int))=true:=eD (by omega)
  go_enter Tryz.func192,Tryz.ntmps192
  go_wp2
  go_ret
  exact aB Hno.out (aW _ _)
def KG (n:Nat)(f:Nat→Int×Int)(a:Int)(p:Nat):Prop:=p≤n∧(∀ j,j<p→(f j).2≤a)∧(p<n→¬(f p).2≤a)
def Xh (n:Nat)(f:Nat→Int×Int)(a:Int)(w:World)(e:Ending)(w':World):Prop:=∃ p:Nat,e=.returned (.int .i64 p)∧KG n f a p∧Below w.heap.size w w'
theorem bel1 {w W:World}{o:Obj}(h:Below (w.heap.size+1) (w.alloc o) W):Below w.heap.size w W:=((aW w.heap.size w).alloc (bK _) o).trans (h.mono (Nat.le_succ _))
theorem box0 {w W:World}{x y:Value}{t:TypeId}(h:Below (w.heap.size+1) (w.alloc (.cells #[x,y] t)) W):W.cell? ⟨w.heap.size,0,none⟩=some x∧W.cell? ⟨w.heap.size,1,none⟩=some y∧w.heap.size<W.heap.size:=by
 refine ⟨(h.cell (p:=⟨w.heap.size,0,none⟩) (Nat.lt_succ_self _)).trans (by simp),(h.cell (p:=⟨w.heap.size,1,none⟩) (Nat.lt_succ_self _)).trans (by simp),?_⟩
 have:=h.size
 simp at this
 omega
theorem vg (qa:Option Addr)(n qc:Nat)(f:Nat→Int×Int)(a b:Int)(w:World)(hn:n≤1048576)(h1:PA w qa n f) :
 Calls Tryz.prog 180 #[.slice qa n qc,.agg #[.int .i64 a,.int .i64 b]] w (Xh n f a w):=by
 have H1:=ak h1
 clear h1
 go_enter Tryz.func180,Tryz.ntmps180
 go_wp2
 go_loopw [5] (fun i wr=>∃ k:Nat,k≤n∧i=.int .i64 k∧(∀ j,j<k→(f j).2≤a)∧Below (w.heap.size+1) (w.alloc (.cells #[.int .i64 a,.int .i64 b] 61)) wr) (fun i _=>n-(intOf i).toNat)
 case atStart=>exact ⟨0,dV _,rfl,fun j h=>absurd h (gZ _),by simpa using aW _ _⟩
 case round=>
  obtain ⟨k,hk,rfl,hall,hb⟩:=hrel
  have HA:=ak hall
  have HB:=ak hb
  have ⟨hx0,hx1,hxl⟩:=box0 hb
  have hsz:w.heap.size+1≤wr.heap.size:=hxl
  clear hall
  by_cases hlt:k<n
  ·obtain ⟨g,o,rfl,hgl,hc0,hc1⟩:=(H1.out.bel (bel1 hb)) _ hlt
   have hi0:(0:Int)≤(k:Int):=eu _
   have hi1:(k:Int)<(n:Int):=by omega
   have hkn:decide ((k:Int)<(n:Int))=true:=eD hi1
   have hkn':decide (k<n)=true:=eD hlt
   clear hb
   have hm:=uz (f k).1 (f k).2
   have hrs:=fun W=>zk (f k).1 (f k).2 a b W
   by_cases hlo:(f k).2≤a
   ·have kX:=ak (iT (P:=fun j=>(f j).2≤a) HA.out hlo)
    rw [decide_eq_true hlo] at hrs
    go_wp2_with fail
    refine dX (S:=(fun W=>W.cell? ⟨g,o+k*2,none⟩=some (.int .i64 (f k).1)∧W.cell? ⟨g,o+k*2+1,none⟩=some (.int .i64 (f k).2)∧W.cell? ⟨w.heap.size,0,none⟩=some (.int .i64 a)∧W.cell? ⟨w.heap.size,1,none⟩=some (.int .i64 b)∧wr.heap.size≤W.heap.size∧Below (w.heap.size+1) (w.alloc (.cells #[.int .i64 a,.int .i64 b] 61)) W)) (by kernel_rfl) (⟨hc0,hc1,hx0,hx1,bK _,HB.out.drew⟩) (fun ah=>?_)
    refine tk 0 ah ?_
    refine tk 1 ah ?_
    refine tk 2 ah ?_
    refine tk 3 ah ?_
    refine tk 4 ah ?_
    refine tk 5 ah ?_
    refine tk 6 ah ?_
    refine tk 7 ah ?_
    refine tk 8 ah ?_
    refine tk 9 ah ?_
    refine tk 10 ah ?_
    refine dw 11 (fun K hK=>?_)
    go_simp
    go_at_call 311;refine (hrs _).mono ?_;rintro e w1 ⟨rfl,hb⟩
    refine hK.out _ _ (⟨(hb.cell (p:=⟨g,o+k*2,none⟩) (bV hgl ah.2.2.2.2.1)).trans ah.1,(hb.cell (p:=⟨g,o+k*2+1,none⟩) (bV hgl ah.2.2.2.2.1)).trans ah.2.1,(hb.cell (p:=⟨w.heap.size,0,none⟩) (bV hxl ah.2.2.2.2.1)).trans ah.2.2.1,(hb.cell (p:=⟨w.heap.size,1,none⟩) (bV hxl ah.2.2.2.2.1)).trans ah.2.2.2.1,eF ah.2.2.2.2.1 hb.size,ah.2.2.2.2.2.trans (hb.mono (eF hsz ah.2.2.2.2.1))⟩) (fun ah=>?_)
    clear hK K
    refine tk 12 ah ?_
    refine dQ ?_
    have HF:=ak ah.2.2.2.2.2
    clear ah
    go_wp2
    go_roundw
    case rel=>exact ⟨k+1,by omega,by go_num,kX.out,HF.out⟩
    case measure=>simp [intOf];omega
   ·have kX:=ak (show KG n f a k from ⟨hk,HA.out,fun _=>hlo⟩)
    rw [decide_eq_false hlo] at hrs
    go_wp2_with fail
    refine dX (S:=(fun W=>W.cell? ⟨g,o+k*2,none⟩=some (.int .i64 (f k).1)∧W.cell? ⟨g,o+k*2+1,none⟩=some (.int .i64 (f k).2)∧W.cell? ⟨w.heap.size,0,none⟩=some (.int .i64 a)∧W.cell? ⟨w.heap.size,1,none⟩=some (.int .i64 b)∧wr.heap.size≤W.heap.size∧Below (w.heap.size+1) (w.alloc (.cells #[.int .i64 a,.int .i64 b] 61)) W)) (by kernel_rfl) (⟨hc0,hc1,hx0,hx1,bK _,HB.out.drew⟩) (fun ah=>?_)
    refine tk 0 ah ?_
    refine tk 1 ah ?_
    refine tk 2 ah ?_
    refine tk 3 ah ?_
    refine tk 4 ah ?_
    refine tk 5 ah ?_
    refine tk 6 ah ?_
    refine tk 7 ah ?_
    refine tk 8 ah ?_
    refine tk 9 ah ?_
    refine tk 10 ah ?_
    refine dw 11 (fun K hK=>?_)
    go_simp
    go_at_call 311;refine (hrs _).mono ?_;rintro e w1 ⟨rfl,hb⟩
    refine hK.out _ _ (⟨(hb.cell (p:=⟨g,o+k*2,none⟩) (bV hgl ah.2.2.2.2.1)).trans ah.1,(hb.cell (p:=⟨g,o+k*2+1,none⟩) (bV hgl ah.2.2.2.2.1)).trans ah.2.1,(hb.cell (p:=⟨w.heap.size,0,none⟩) (bV hxl ah.2.2.2.2.1)).trans ah.2.2.1,(hb.cell (p:=⟨w.heap.size,1,none⟩) (bV hxl ah.2.2.2.2.1)).trans ah.2.2.2.1,eF ah.2.2.2.2.1 hb.size,ah.2.2.2.2.2.trans (hb.mono (eF hsz ah.2.2.2.2.1))⟩) (fun ah=>?_)
    clear hK K
    refine tk 12 ah ?_
    refine dQ ?_
    have HF:=ak ah.2.2.2.2.2
    clear ah
    go_wp2
    go_ret
    exact ⟨k,rfl,kX.out,bel1 HF.out⟩
  ·obtain rfl:k=n:=by omega
   have kX:=ak (show KG k f a k from ⟨hk,HA.out,fun h=>absurd h hlt⟩)
   have hkn:decide ((k:Int)<(k:Int))=false:=dS (by omega)
   have hkn':decide (k<k)=false:=dS (by omega)
   clear hb
   go_wp2_with fail
   refine dX (S:=(fun W=>W.cell? ⟨w.heap.size,0,none⟩=some (.int .i64 a)∧W.cell? ⟨w.heap.size,1,none⟩=some (.int .i64 b)∧wr.heap.size≤W.heap.size∧Below (w.heap.size+1) (w.alloc (.cells #[.int .i64 a,.int .i64 b] 61)) W)) (by kernel_rfl) (⟨hx0,hx1,bK _,HB.out.drew⟩) (fun ah=>?_)
   refine tk 0 ah ?_
   refine tk 1 ah ?_
   refine tk 2 ah ?_
   refine tk 3 ah ?_
   refine tk 4 ah ?_
   refine tn 5 ah ?_
   refine tn 6 ah ?_
   refine tn 7 ah ?_
   refine tn 8 ah ?_
   refine tn 9 ah ?_
   refine tn 10 ah ?_
   refine tn 11 ah ?_
   refine tk 12 ah ?_
   refine dQ ?_
   have HF:=ak ah.2.2.2
   clear ah
   go_wp2
   go_ret
   exact ⟨k,rfl,kX.out,bel1 HF.out⟩
end
end bJ
end Go.Proofs.YtlhfiapfncikdaaGreatDoor
