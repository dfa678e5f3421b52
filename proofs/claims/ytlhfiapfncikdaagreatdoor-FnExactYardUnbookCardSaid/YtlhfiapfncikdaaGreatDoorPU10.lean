import Derived.Test.YtlhfiapfncikdaaGreatDoorPU1
import Derived.Test.YtlhfiapfncikdaaGreatDoorPU4
set_option linter.unusedVariables false
set_option linter.unusedSimpArgs false
set_option maxRecDepth 100000
set_option maxHeartbeats 3200000
namespace Go.Proofs.YtlhfiapfncikdaaGreatDoor.bJ
section
open Go.RowKit bM
def PE (w:World)(b o n:Nat)(f:Nat→Int×Int):Prop:=∀ i,i<n→w.cell? ⟨b,o+i*2,none⟩=some (.int .i64 (f i).1)∧w.cell? ⟨b,o+i*2+1,none⟩=some (.int .i64 (f i).2)
theorem PE.below {w W:World}{b o n B:Nat}{f:Nat→Int×Int}(h:PE w b o n f)(hb:Below B w W)(hB:b<B):PE W b o n f:=fun i hi=>
 ⟨(hb.cell (p:=⟨b,o+i*2,none⟩) hB).trans (h i hi).1,(hb.cell (p:=⟨b,o+i*2+1,none⟩) hB).trans (h i hi).2⟩
def okS (f:Nat→Int×Int)(i:Nat):Prop:=yT (f i).1 (f i).2=true∧(0<i→(f (i-1)).2≤(f i).1)
def JA (n:Nat)(f:Nat→Int×Int):Prop:=n≤20∧∀ i,i<n→okS f i
def PA (W:World)(qa:Option Addr)(n:Nat)(f:Nat→Int×Int):Prop:=∀ i,i<n→∃ g o,qa=some ⟨g,o,none⟩∧g<W.heap.size∧W.cell? ⟨g,o+i*2,none⟩=some (.int .i64 (f i).1)∧W.cell? ⟨g,o+i*2+1,none⟩=some (.int .i64 (f i).2)
theorem PA.below {W W':World}{qa:Option Addr}{n B:Nat}{f:Nat→Int×Int}(h:PA W qa n f)(hb:Below B W W')(hB:W.heap.size≤B):PA W' qa n f:=fun i hi=>by
 obtain ⟨g,o,e,hg,h1,h2⟩:=h i hi
 exact ⟨g,o,e,bV hg hb.size,(hb.cell (p:=⟨g,_,none⟩) (bV hg hB)).trans h1,(hb.cell (p:=⟨g,_,none⟩) (bV hg hB)).trans h2⟩
theorem PA.bel {W W':World}{qa:Option Addr}{n:Nat}{f:Nat→Int×Int}(h:PA W qa n f)(hb:Below W.heap.size W W'):PA W' qa n f:=h.below hb (bK _)
theorem PE.pa {W:World}{g o n:Nat}{f:Nat→Int×Int}(h:PE W g o n f)(hg:g<W.heap.size):PA W (some ⟨g,o,none⟩) n f:=fun i hi=>⟨g,o,rfl,hg,(h i hi).1,(h i hi).2⟩
theorem PA.row {W:World}{g o n:Nat}{f:Nat→Int×Int}(h:PA W (some ⟨g,o,none⟩) n f):PE W g o n f:=fun i hi=>by
 obtain ⟨g',o',e,_,h1,h2⟩:=h i hi
 cases e
 exact ⟨h1,h2⟩
theorem IG (qa:Option Addr)(n qc:Nat)(f:Nat→Int×Int)(w:World)(hn:n≤1048576)(h1:PA w qa n f) :
 Calls Tryz.prog 161 #[.slice qa n qc] w (jh (JA n f) w):=by
 have H1:=aj h1
 clear h1
 go_enter Tryz.func161,Tryz.ntmps161
 go_wp2
 go_loopw [3] (fun i wr=>∃ k:Nat,k≤n∧k≤21∧i=.int .i64 k∧(∀ j,j<k→okS f j)∧Below w.heap.size w wr) (fun i _=>n-(intOf i).toNat)
 case atStart=>exact ⟨0,dX _,by omega,rfl,fun j h=>absurd h (gT _),aU _ _⟩
 case round=>
  obtain ⟨k,hk,hk21,rfl,hall,hb⟩:=hrel
  have HA:=aj hall
  have HB:=aj hb
  have hsz:=hb.size
  clear hall
  by_cases hlt:k<n
  ·by_cases h20:k≤20
   ·obtain ⟨g,o,rfl,hgl,hc0,hc1⟩:=(H1.out.bel hb) _ hlt
    have hi0:(0:Int)≤(k:Int):=eu _
    have hi1:(k:Int)<(n:Int):=by omega
    clear hb
    cases hr:yT (f k).1 (f k).2 with
    | false=>
     have Hno:=aj (show ¬JA n f from fun h=>by have:=(h.2 k hlt).1;rw [hr] at this;cases this)
     have hrs:=fun W=>iM (f k).1 (f k).2 W
     rw [hr] at hrs
     clear hr
     go_wp2_with fail
     refine dW (S:=(fun W=>W.cell? ⟨g,o+k*2,none⟩=some (.int .i64 (f k).1)∧W.cell? ⟨g,o+k*2+1,none⟩=some (.int .i64 (f k).2)∧wr.heap.size≤W.heap.size∧Below w.heap.size w W)) (by kernel_rfl) (⟨hc0,hc1,bK _,HB.out.drew⟩) (fun ah=>?_)
     refine tk 0 ah ?_
     refine tk 1 ah ?_
     refine tk 2 ah ?_
     refine tk 3 ah ?_
     refine cZ 4 (fun K hK=>?_)
     go_simp
     go_at_call 115;refine (hrs _).mono ?_;rintro e w1 ⟨rfl,hb⟩
     refine hK.out _ _ (⟨(hb.cell (p:=⟨g,o+k*2,none⟩) (bV hgl ah.2.2.1)).trans ah.1,(hb.cell (p:=⟨g,o+k*2+1,none⟩) (bV hgl ah.2.2.1)).trans ah.2.1,eH ah.2.2.1 hb.size,ah.2.2.2.trans (hb.mono (eH hsz ah.2.2.1))⟩) (fun ah=>?_)
     clear hK K
     refine tk 5 ah ?_
     refine tk 6 ah ?_
     refine tn 7 ah ?_
     refine tn 8 ah ?_
     refine tn 9 ah ?_
     refine tn 10 ah ?_
     refine tn 11 ah ?_
     refine tn 12 ah ?_
     refine tn 13 ah ?_
     refine tn 14 ah ?_
     refine tn 15 ah ?_
     refine tn 16 ah ?_
     refine tn 17 ah ?_
     refine tn 18 ah ?_
     refine tn 19 ah ?_
     refine tn 20 ah ?_
     refine tn 21 ah ?_
     refine tn 22 ah ?_
     refine tk 23 ah ?_
     refine dQ ?_
     have HF:=aj ah.2.2.2
     clear ah
     go_wp2
     go_ret
     exact aA Hno.out HF.out
    | true=>
     have hrs:=fun W=>iM (f k).1 (f k).2 W
     rw [hr] at hrs
     have Hr:=aj hr
     clear hr
     rcases Nat.eq_zero_or_pos k with hk0 | hk0
     ·subst hk0
      have hc0':wr.cell? ⟨g,o,none⟩=some (.int .i64 (f 0).1):=by simpa using hc0
      have hc1':wr.cell? ⟨g,o+1,none⟩=some (.int .i64 (f 0).2):=by simpa using hc1
      clear hc0 hc1
      have kY:=aj (iW HA.out ⟨Hr.out,fun h=>absurd h (jK _)⟩)
      go_wp2_with fail
      refine dW (S:=(fun W=>W.cell? ⟨g,o,none⟩=some (.int .i64 (f 0).1)∧W.cell? ⟨g,o+1,none⟩=some (.int .i64 (f 0).2)∧wr.heap.size≤W.heap.size∧Below w.heap.size w W)) (by kernel_rfl) (⟨hc0',hc1',bK _,HB.out.drew⟩) (fun ah=>?_)
      refine tk 0 ah ?_
      refine tk 1 ah ?_
      refine tk 2 ah ?_
      refine tk 3 ah ?_
      refine cZ 4 (fun K hK=>?_)
      go_simp
      go_at_call 115;refine (hrs _).mono ?_;rintro e w1 ⟨rfl,hb⟩
      refine hK.out _ _ (⟨(hb.cell (p:=⟨g,o,none⟩) (bV hgl ah.2.2.1)).trans ah.1,(hb.cell (p:=⟨g,o+1,none⟩) (bV hgl ah.2.2.1)).trans ah.2.1,eH ah.2.2.1 hb.size,ah.2.2.2.trans (hb.mono (eH hsz ah.2.2.1))⟩) (fun ah=>?_)
      clear hK K
      refine tk 5 ah ?_
      refine tk 6 ah ?_
      refine tk 7 ah ?_
      refine tk 8 ah ?_
      refine tk 9 ah ?_
      refine tn 10 ah ?_
      refine tn 11 ah ?_
      refine tn 12 ah ?_
      refine tn 13 ah ?_
      refine tn 14 ah ?_
      refine tn 15 ah ?_
      refine tn 16 ah ?_
      refine tn 17 ah ?_
      refine tn 18 ah ?_
      refine tn 19 ah ?_
      refine tn 20 ah ?_
      refine tn 21 ah ?_
      refine tk 22 ah ?_
      refine tk 23 ah ?_
      refine dQ ?_
      have HF:=aj ah.2.2.2
      clear ah
      go_wp2
      go_roundw
      case rel=>exact ⟨1,by omega,by omega,by go_num,kY.out,HF.out⟩
      case measure=>simp [intOf];omega
     ·obtain ⟨j,rfl⟩:∃ j,k=j+1:=⟨k-1,by omega⟩
      obtain ⟨g2,o2,e2,_,hd0,hd1⟩:=(H1.out.bel HB.out) j (by omega)
      cases e2
      have hj0:(0:Int)≤(j:Int):=eu _
      have hj1:(j:Int)<(n:Int):=by omega
      have Yq:IntKind.i64.wrap (j:Int)=(j:Int):=gJ _ (by omega)
      have Yt:(0:Int)≤(j:Int)+1:=by omega
      have Yr:(j:Int)+1<(n:Int):=by omega
      have Xm:IntKind.i64.wrap ((j:Int)+1-1)=(j:Int):=(by rw [show (j:Int)+1-1=(j:Int) by omega];exact gJ _ (by omega))
      have hjp:decide ((0:Int)<(j:Int)+1)=true:=eO (by omega)
      by_cases hlo:(f (j+1)).1<(f j).2
      ·have Hno:=aj (show ¬JA n f from fun h=>by have h2:=(h.2 (j+1) hlt).2 (Nat.succ_pos _);simp only [Nat.add_sub_cancel] at h2;omega)
       have hlo':decide ((f (j+1)).1<(f j).2)=true:=eO hlo
       go_wp2_with fail
       refine dW (S:=(fun W=>W.cell? ⟨g,o+j*2,none⟩=some (.int .i64 (f j).1)∧W.cell? ⟨g,o+j*2+1,none⟩=some (.int .i64 (f j).2)∧W.cell? ⟨g,o+(j+1)*2,none⟩=some (.int .i64 (f (j+1)).1)∧W.cell? ⟨g,o+(j+1)*2+1,none⟩=some (.int .i64 (f (j+1)).2)∧wr.heap.size≤W.heap.size∧Below w.heap.size w W)) (by kernel_rfl) (⟨hd0,hd1,hc0,hc1,bK _,HB.out.drew⟩) (fun ah=>?_)
       refine tk 0 ah ?_
       refine tk 1 ah ?_
       refine tk 2 ah ?_
       refine tk 3 ah ?_
       refine cZ 4 (fun K hK=>?_)
       go_simp
       go_at_call 115;refine (hrs _).mono ?_;rintro e w1 ⟨rfl,hb⟩
       refine hK.out _ _ (⟨(hb.cell (p:=⟨g,o+j*2,none⟩) (bV hgl ah.2.2.2.2.1)).trans ah.1,(hb.cell (p:=⟨g,o+j*2+1,none⟩) (bV hgl ah.2.2.2.2.1)).trans ah.2.1,(hb.cell (p:=⟨g,o+(j+1)*2,none⟩) (bV hgl ah.2.2.2.2.1)).trans ah.2.2.1,(hb.cell (p:=⟨g,o+(j+1)*2+1,none⟩) (bV hgl ah.2.2.2.2.1)).trans ah.2.2.2.1,eH ah.2.2.2.2.1 hb.size,ah.2.2.2.2.2.trans (hb.mono (eH hsz ah.2.2.2.2.1))⟩) (fun ah=>?_)
       clear hK K
       refine tk 5 ah ?_
       refine tk 6 ah ?_
       refine tk 7 ah ?_
       refine tk 8 ah ?_
       refine tk 9 ah ?_
       refine tk 10 ah ?_
       refine tk 11 ah ?_
       refine tk 12 ah ?_
       refine tk 13 ah ?_
       refine tk 14 ah ?_
       refine tk 15 ah ?_
       refine tk 16 ah ?_
       refine tk 17 ah ?_
       refine tk 18 ah ?_
       refine tk 19 ah ?_
       refine tk 20 ah ?_
       refine tk 21 ah ?_
       refine tk 22 ah ?_
       refine tk 23 ah ?_
       refine dQ ?_
       have HF:=aj ah.2.2.2.2.2
       clear ah
       go_wp2
       go_ret
       exact aA Hno.out HF.out
      ·have kY:=aj (iW HA.out (show okS f (j+1) from ⟨Hr.out,fun _=>by simp only [Nat.add_sub_cancel];omega⟩))
       have hlo':decide ((f (j+1)).1<(f j).2)=false:=dU hlo
       go_wp2_with fail
       refine dW (S:=(fun W=>W.cell? ⟨g,o+j*2,none⟩=some (.int .i64 (f j).1)∧W.cell? ⟨g,o+j*2+1,none⟩=some (.int .i64 (f j).2)∧W.cell? ⟨g,o+(j+1)*2,none⟩=some (.int .i64 (f (j+1)).1)∧W.cell? ⟨g,o+(j+1)*2+1,none⟩=some (.int .i64 (f (j+1)).2)∧wr.heap.size≤W.heap.size∧Below w.heap.size w W)) (by kernel_rfl) (⟨hd0,hd1,hc0,hc1,bK _,HB.out.drew⟩) (fun ah=>?_)
       refine tk 0 ah ?_
       refine tk 1 ah ?_
       refine tk 2 ah ?_
       refine tk 3 ah ?_
       refine cZ 4 (fun K hK=>?_)
       go_simp
       go_at_call 115;refine (hrs _).mono ?_;rintro e w1 ⟨rfl,hb⟩
       refine hK.out _ _ (⟨(hb.cell (p:=⟨g,o+j*2,none⟩) (bV hgl ah.2.2.2.2.1)).trans ah.1,(hb.cell (p:=⟨g,o+j*2+1,none⟩) (bV hgl ah.2.2.2.2.1)).trans ah.2.1,(hb.cell (p:=⟨g,o+(j+1)*2,none⟩) (bV hgl ah.2.2.2.2.1)).trans ah.2.2.1,(hb.cell (p:=⟨g,o+(j+1)*2+1,none⟩) (bV hgl ah.2.2.2.2.1)).trans ah.2.2.2.1,eH ah.2.2.2.2.1 hb.size,ah.2.2.2.2.2.trans (hb.mono (eH hsz ah.2.2.2.2.1))⟩) (fun ah=>?_)
       clear hK K
       refine tk 5 ah ?_
       refine tk 6 ah ?_
       refine tk 7 ah ?_
       refine tk 8 ah ?_
       refine tk 9 ah ?_
       refine tk 10 ah ?_
       refine tk 11 ah ?_
       refine tk 12 ah ?_
       refine tk 13 ah ?_
       refine tk 14 ah ?_
       refine tk 15 ah ?_
       refine tk 16 ah ?_
       refine tk 17 ah ?_
       refine tk 18 ah ?_
       refine tk 19 ah ?_
       refine tk 20 ah ?_
       refine tk 21 ah ?_
       refine tk 22 ah ?_
       refine tk 23 ah ?_
       refine dQ ?_
       have HF:=aj ah.2.2.2.2.2
       clear ah
       go_wp2
       go_roundw
       case rel=>exact ⟨j+2,by omega,by omega,by go_num,kY.out,HF.out⟩
       case measure=>simp [intOf];omega
   ·have Hno:=aj (show ¬JA n f from fun h=>by have:=h.1;omega)
    have hdk:decide ((k:Int)≤20)=false:=dU (by omega)
    have hdn:decide ((n:Int)≤20)=false:=dU (by omega)
    clear hb
    go_wp2
    go_ret
    exact aA Hno.out HB.out
  ·clear hb
   by_cases hn20:n≤20
   ·have Hy:=aj (show JA n f from ⟨hn20,fun i hi=>HA.out i (by omega)⟩)
    have hdn:decide ((n:Int)≤20)=true:=eO (by omega)
    go_wp2
    go_ret
    exact bO Hy.out HB.out
   ·have Hno:=aj (show ¬JA n f from fun h=>hn20 h.1)
    have hdn:decide ((n:Int)≤20)=false:=dU (by omega)
    go_wp2
    go_ret
    exact aA Hno.out HB.out
end
end Go.Proofs.YtlhfiapfncikdaaGreatDoor.bJ
namespace Go.Proofs.YtlhfiapfncikdaaGreatDoor.aP
section
open Go.RowKit bN bP bJ bM
def gt (L:List bL)(i:Nat):Int×Int:=(L[i]?).getD (0,0)
theorem TU {L:List bL}{i:Nat}{x:bL}(h:L[i]? = some x):gt L i=x:=by unfold gt;rw [h];rfl
theorem aar {W:World}{B:Nat}{L:List bL}{a:Option Addr}{cap:Nat}(h:aH bg W B L a cap)(hB:B≤W.heap.size):PA W a L.length (gt L):=fun i hi=>by
 obtain ⟨x,hx⟩:=aL hi
 obtain ⟨g,o,us,rfl,hg,hu,hr⟩:=h.at_ hx
 obtain ⟨x0,x1⟩:=x
 obtain rfl:=nH hr
 rw [TU hx]
 exact ⟨g,o,rfl,bV hg hB,by simpa [dL] using hu 0 _ rfl,by simpa [dL,Nat.add_assoc] using hu 1 _ rfl⟩
def Pb (x:aO):Prop:=dI x.1 1 3=true∧x.2.length≤4∧JA x.2.length (gt x.2)
def qJ (L:List aO):Prop:=(1≤L.length∧L.length≤6)∧∀ x∈L,Pb x
open Classical in
noncomputable def iX (L:List aO):Bool:=decide (qJ L)
open Classical in
theorem gF {L:List aO}:iX L=true↔qJ L:=by unfold iX;simp
theorem GQ {P:Prop}{b:Bool}{w w':World}{e:Ending}(hb:b=true↔P)(h:jh P w e w'):sD b w e w':=by
 obtain ⟨c,rfl,hc,hB⟩:=h
 obtain rfl:c=b:=by
  cases c <;> cases b <;> first | rfl | exact absurd (hc.2 (hb.1 rfl)) (by decide) | exact absurd (hb.2 (hc.1 rfl)) (by decide)
 exact ⟨rfl,hB⟩
theorem oG {α:Type}{E:Rp α}(hE:Ok E){L:List α}{a:Option Addr}{cap:Nat}{w w':World}(h:aH E w w.heap.size L a cap)(hb:Below w.heap.size w w'):aH E w' w'.heap.size L a cap:=(h.below hE hb).more hE hb.size
def O9 (L:List aO)(k:Nat):Prop:=∀ i x,i<k→L[i]? = some x→Pb x
theorem DL {L:List aO}:O9 L 0:=fun i x h=>absurd h (gT _)
theorem DN {L:List aO}{k:Nat}{x:aO}(h:O9 L k)(hx:L[k]? = some x)(hk:Pb x):O9 L (k+1):=fun i y hi hy=>by
 rcases Nat.lt_succ_iff_lt_or_eq.1 hi with h1 | h1
 ·exact h i y h1 hy
 ·subst h1;rw [hx] at hy;cases hy;exact hk
theorem BH {L:List aO}(h1:1≤L.length)(h2:L.length≤6)(h:O9 L L.length):qJ L:=⟨⟨h1,h2⟩,fun x hx=>by
 obtain ⟨i,hi,e⟩:=List.getElem_of_mem hx
 exact h i x hi (by rw [List.getElem?_eq_getElem hi,e])⟩
theorem jB {L:List aO}(h:qJ L){k:Nat}{x:aO}(hx:L[k]? = some x):Pb x:=h.2 x (List.mem_of_getElem? hx)
end
end Go.Proofs.YtlhfiapfncikdaaGreatDoor.aP
namespace Go.Proofs.YtlhfiapfncikdaaGreatDoor.bJ
section
open Go.RowKit bM
theorem uf (a b:Int)(w:World):(Go.method 457 61 (.agg #[.int .i64 a,.int .i64 b]) "loop.example/g00658/impl.before").run Tryz.prog w=.ok (311,.agg #[.int .i64 a,.int .i64 b]) w:=by kernel_rfl
def Ord (n:Nat)(f:Nat→Int×Int):Prop:=∀ j,j+1<n→(f j).2≤(f (j+1)).1
theorem KN (qa:Option Addr)(n qc:Nat)(f:Nat→Int×Int)(w:World)(hn:n≤1048576)(h1:PA w qa n f) :
 Calls Tryz.prog 233 #[.slice qa n qc] w (jh (Ord n f) w):=by
 have H1:=aj h1
 clear h1
 go_enter Tryz.func233,Tryz.ntmps233
 go_wp2
 go_loopw [3] (fun i wr=>∃ k:Nat,(k≤n∨k=1)∧1≤k∧i=.int .i64 k∧(∀ j,j+1<k→(f j).2≤(f (j+1)).1)∧Below w.heap.size w wr) (fun i _=>n-(intOf i).toNat)
 case atStart=>exact ⟨1,.inr rfl,by omega,rfl,fun j h=>by omega,aU _ _⟩
 case round=>
  obtain ⟨k,hk,hk1,rfl,hall,hb⟩:=hrel
  have HA:=aj hall
  have HB:=aj hb
  have hsz:=hb.size
  clear hall
  by_cases hlt:k<n
  ·obtain ⟨j,rfl⟩:∃ j,k=j+1:=⟨k-1,by omega⟩
   obtain ⟨g,o,rfl,hgl,hc0,hc1⟩:=(H1.out.bel hb) _ hlt
   obtain ⟨g2,o2,e2,_,hd0,hd1⟩:=(H1.out.bel HB.out) j (by omega)
   cases e2
   have hj0:(0:Int)≤(j:Int):=eu _
   have hj1:(j:Int)<(n:Int):=by omega
   have Yq:IntKind.i64.wrap (j:Int)=(j:Int):=gJ _ (by omega)
   have Yt:(0:Int)≤(j:Int)+1:=by omega
   have Yr:(j:Int)+1<(n:Int):=by omega
   have Xm:IntKind.i64.wrap ((j:Int)+1-1)=(j:Int):=(by rw [show (j:Int)+1-1=(j:Int) by omega];exact gJ _ (by omega))
   clear hb
   have hm:=uf (f j).1 (f j).2
   have hrs:=fun W=>yQ (f j).1 (f j).2 (f (j+1)).1 (f (j+1)).2 W
   by_cases hlo:(f j).2≤(f (j+1)).1
   ·have kY:=aj (show ∀ i,i+1<j+2→(f i).2≤(f (i+1)).1 from fun i hi=>by
     by_cases e:i=j
     ·subst e;exact hlo
     ·exact HA.out i (by omega))
    rw [decide_eq_true hlo] at hrs
    go_wp2_with fail
    refine dW (S:=(fun W=>W.cell? ⟨g,o+j*2,none⟩=some (.int .i64 (f j).1)∧W.cell? ⟨g,o+j*2+1,none⟩=some (.int .i64 (f j).2)∧W.cell? ⟨g,o+(j+1)*2,none⟩=some (.int .i64 (f (j+1)).1)∧W.cell? ⟨g,o+(j+1)*2+1,none⟩=some (.int .i64 (f (j+1)).2)∧wr.heap.size≤W.heap.size∧Below w.heap.size w W)) (by kernel_rfl) (⟨hd0,hd1,hc0,hc1,bK _,HB.out.drew⟩) (fun ah=>?_)
    refine tk 0 ah ?_
    refine tk 1 ah ?_
    refine tk 2 ah ?_
    refine tk 3 ah ?_
    refine tk 4 ah ?_
    refine tk 5 ah ?_
    refine tk 6 ah ?_
    refine tk 7 ah ?_
    refine tk 8 ah ?_
    refine tk 9 ah ?_
    refine cZ 10 (fun K hK=>?_)
    go_simp
    go_at_call 311;refine (hrs _).mono ?_;rintro e w1 ⟨rfl,hb⟩
    refine hK.out _ _ (⟨(hb.cell (p:=⟨g,o+j*2,none⟩) (bV hgl ah.2.2.2.2.1)).trans ah.1,(hb.cell (p:=⟨g,o+j*2+1,none⟩) (bV hgl ah.2.2.2.2.1)).trans ah.2.1,(hb.cell (p:=⟨g,o+(j+1)*2,none⟩) (bV hgl ah.2.2.2.2.1)).trans ah.2.2.1,(hb.cell (p:=⟨g,o+(j+1)*2+1,none⟩) (bV hgl ah.2.2.2.2.1)).trans ah.2.2.2.1,eH ah.2.2.2.2.1 hb.size,ah.2.2.2.2.2.trans (hb.mono (eH hsz ah.2.2.2.2.1))⟩) (fun ah=>?_)
    clear hK K
    refine tk 11 ah ?_
    refine dQ ?_
    have HF:=aj ah.2.2.2.2.2
    clear ah
    go_wp2
    go_roundw
    case rel=>exact ⟨j+2,by omega,by omega,by go_num,kY.out,HF.out⟩
    case measure=>simp [intOf];omega
   ·have Hno:=aj (show ¬Ord n f from fun h=>hlo (h j hlt))
    rw [decide_eq_false hlo] at hrs
    go_wp2_with fail
    refine dW (S:=(fun W=>W.cell? ⟨g,o+j*2,none⟩=some (.int .i64 (f j).1)∧W.cell? ⟨g,o+j*2+1,none⟩=some (.int .i64 (f j).2)∧W.cell? ⟨g,o+(j+1)*2,none⟩=some (.int .i64 (f (j+1)).1)∧W.cell? ⟨g,o+(j+1)*2+1,none⟩=some (.int .i64 (f (j+1)).2)∧wr.heap.size≤W.heap.size∧Below w.heap.size w W)) (by kernel_rfl) (⟨hd0,hd1,hc0,hc1,bK _,HB.out.drew⟩) (fun ah=>?_)
    refine tk 0 ah ?_
    refine tk 1 ah ?_
    refine tk 2 ah ?_
    refine tk 3 ah ?_
    refine tk 4 ah ?_
    refine tk 5 ah ?_
    refine tk 6 ah ?_
    refine tk 7 ah ?_
    refine tk 8 ah ?_
    refine tk 9 ah ?_
    refine cZ 10 (fun K hK=>?_)
    go_simp
    go_at_call 311;refine (hrs _).mono ?_;rintro e w1 ⟨rfl,hb⟩
    refine hK.out _ _ (⟨(hb.cell (p:=⟨g,o+j*2,none⟩) (bV hgl ah.2.2.2.2.1)).trans ah.1,(hb.cell (p:=⟨g,o+j*2+1,none⟩) (bV hgl ah.2.2.2.2.1)).trans ah.2.1,(hb.cell (p:=⟨g,o+(j+1)*2,none⟩) (bV hgl ah.2.2.2.2.1)).trans ah.2.2.1,(hb.cell (p:=⟨g,o+(j+1)*2+1,none⟩) (bV hgl ah.2.2.2.2.1)).trans ah.2.2.2.1,eH ah.2.2.2.2.1 hb.size,ah.2.2.2.2.2.trans (hb.mono (eH hsz ah.2.2.2.2.1))⟩) (fun ah=>?_)
    clear hK K
    refine tk 11 ah ?_
    refine dQ ?_
    have HF:=aj ah.2.2.2.2.2
    clear ah
    go_wp2
    go_ret
    exact aA Hno.out HF.out
  ·have Hy:=aj (show Ord n f from fun j hj=>HA.out j (by omega))
   clear hb
   go_wp2
   go_ret
   exact bO Hy.out HB.out
theorem abB {n:Nat}{f:Nat→Int×Int}(h:n≤20)(h1:∀ i,i<n→yT (f i).1 (f i).2=true)(h2:Ord n f):JA n f:=
 ⟨h,fun i hi=>⟨h1 i hi,fun h0=>by
  have:=h2 (i-1) (by omega)
  rwa [show i-1+1=i by omega] at this⟩⟩
theorem abH {n:Nat}{f:Nat→Int×Int}(h:JA n f):Ord n f:=fun j hj=>(h.2 (j+1) hj).2 (Nat.succ_pos _)
theorem KA (qa:Option Addr)(n qc:Nat)(f:Nat→Int×Int)(w:World)(hn:n≤1048576)(h1:PA w qa n f) :
 Calls Tryz.prog 192 #[.slice qa n qc] w (jh (JA n f) w):=by
 have H1:=aj h1
 clear h1
 by_cases h20:n≤20
 ·have hd:decide ((20:Int)<(n:Int))=false:=dU (by omega)
  go_enter Tryz.func192,Tryz.ntmps192
  go_wp2
  go_loopw [10] (fun i wr=>∃ k:Nat,k≤n∧i=.int .i64 k∧(∀ j,j<k→yT (f j).1 (f j).2=true)∧Below w.heap.size w wr) (fun i _=>n-(intOf i).toNat)
  case atStart=>exact ⟨0,dX _,rfl,fun j h=>absurd h (gT _),aU _ _⟩
  case round=>
   obtain ⟨k,hk,rfl,hall,hb⟩:=hrel
   have HA:=aj hall
   have HB:=aj hb
   have hsz:=hb.size
   clear hall
   by_cases hlt:k<n
   ·obtain ⟨g,o,rfl,hgl,hc0,hc1⟩:=(H1.out.bel hb) _ hlt
    have hi0:(0:Int)≤(k:Int):=eu _
    have hi1:(k:Int)<(n:Int):=by omega
    have hrs:=fun W=>iN (f k).1 (f k).2 W
    clear hb
    cases hr:yT (f k).1 (f k).2 with
    | false=>
     have Hno:=aj (show ¬JA n f from fun h=>by have:=(h.2 k hlt).1;rw [hr] at this;cases this)
     rw [hr] at hrs
     clear hr
     go_wp2_with (go_at_call 177;refine (hrs _).mono ?_;rintro e w1 ⟨rfl,hb⟩;have HB2:=aj (Below.trans (B:=w.heap.size) (a:=w) (by repeat (first | exact HB.out | refine Below.drew ?_ | refine Below.setCell ?_ (by first | omega | (simp <;> omega)) _ | refine Below.alloc ?_ (by first | omega | (simp <;> omega)) _)) (hb.mono (by first | omega | (simp <;> omega))));clear hb)
     go_ret
     exact aA Hno.out HB2.out
    | true=>
     have kY:=aj (iW HA.out hr)
     rw [hr] at hrs
     clear hr
     go_wp2_with (go_at_call 177;refine (hrs _).mono ?_;rintro e w1 ⟨rfl,hb⟩;have HB2:=aj (Below.trans (B:=w.heap.size) (a:=w) (by repeat (first | exact HB.out | refine Below.drew ?_ | refine Below.setCell ?_ (by first | omega | (simp <;> omega)) _ | refine Below.alloc ?_ (by first | omega | (simp <;> omega)) _)) (hb.mono (by first | omega | (simp <;> omega))));clear hb)
     go_roundw
     case rel=>exact ⟨k+1,by omega,by go_num,kY.out,HB2.out⟩
     case measure=>simp [intOf];omega
   ·clear hb
    obtain rfl:k=n:=by omega
    go_wp2_with fail
    refine (KN qa k qc f _ hn (H1.out.bel HB.out)).mono ?_
    intro e w1 h
    obtain ⟨b,rfl,hb,hB⟩:=bA h
    have HB2:=aj (HB.out.trans (hB.mono hsz))
    have Hb:=aj (show b=true↔JA k f from ⟨fun h=>abB h20 HA.out (hb.1 h),fun h=>hb.2 (abH h)⟩)
    clear h hB hb
    go_wp2
    go_ret
    exact ⟨b,rfl,Hb.out,HB2.out⟩
 ·have Hno:=aj (show ¬JA n f from fun h=>h20 h.1)
  have hd:decide ((20:Int)<(n:Int))=true:=eO (by omega)
  go_enter Tryz.func192,Tryz.ntmps192
  go_wp2
  go_ret
  exact aA Hno.out (aU _ _)
def Ko (n:Nat)(f:Nat→Int×Int)(a:Int)(p:Nat):Prop:=p≤n∧(∀ j,j<p→(f j).2≤a)∧(p<n→¬(f p).2≤a)
def WT (n:Nat)(f:Nat→Int×Int)(a:Int)(w:World)(e:Ending)(w':World):Prop:=∃ p:Nat,e=.returned (.int .i64 p)∧Ko n f a p∧Below w.heap.size w w'
theorem bel1 {w W:World}{o:Obj}(h:Below (w.heap.size+1) (w.alloc o) W):Below w.heap.size w W:=((aU w.heap.size w).alloc (bK _) o).trans (h.mono (Nat.le_succ _))
theorem box0 {w W:World}{x y:Value}{t:TypeId}(h:Below (w.heap.size+1) (w.alloc (.cells #[x,y] t)) W):W.cell? ⟨w.heap.size,0,none⟩=some x∧W.cell? ⟨w.heap.size,1,none⟩=some y∧w.heap.size<W.heap.size:=by
 refine ⟨(h.cell (p:=⟨w.heap.size,0,none⟩) (Nat.lt_succ_self _)).trans (by simp),(h.cell (p:=⟨w.heap.size,1,none⟩) (Nat.lt_succ_self _)).trans (by simp),?_⟩
 have:=h.size
 simp at this
 omega
theorem uO (qa:Option Addr)(n qc:Nat)(f:Nat→Int×Int)(a b:Int)(w:World)(hn:n≤1048576)(h1:PA w qa n f) :
 Calls Tryz.prog 180 #[.slice qa n qc,.agg #[.int .i64 a,.int .i64 b]] w (WT n f a w):=by
 have H1:=aj h1
 clear h1
 go_enter Tryz.func180,Tryz.ntmps180
 go_wp2
 go_loopw [5] (fun i wr=>∃ k:Nat,k≤n∧i=.int .i64 k∧(∀ j,j<k→(f j).2≤a)∧Below (w.heap.size+1) (w.alloc (.cells #[.int .i64 a,.int .i64 b] 61)) wr) (fun i _=>n-(intOf i).toNat)
 case atStart=>exact ⟨0,dX _,rfl,fun j h=>absurd h (gT _),by simpa using aU _ _⟩
 case round=>
  obtain ⟨k,hk,rfl,hall,hb⟩:=hrel
  have HA:=aj hall
  have HB:=aj hb
  have ⟨hx0,hx1,hxl⟩:=box0 hb
  have hsz:w.heap.size+1≤wr.heap.size:=hxl
  clear hall
  by_cases hlt:k<n
  ·obtain ⟨g,o,rfl,hgl,hc0,hc1⟩:=(H1.out.bel (bel1 hb)) _ hlt
   have hi0:(0:Int)≤(k:Int):=eu _
   have hi1:(k:Int)<(n:Int):=by omega
   have hkn:decide ((k:Int)<(n:Int))=true:=eO hi1
   have hkn':decide (k<n)=true:=eO hlt
   clear hb
   have hm:=uf (f k).1 (f k).2
   have hrs:=fun W=>yQ (f k).1 (f k).2 a b W
   by_cases hlo:(f k).2≤a
   ·have kY:=aj (iW (P:=fun j=>(f j).2≤a) HA.out hlo)
    rw [decide_eq_true hlo] at hrs
    go_wp2_with fail
    refine dW (S:=(fun W=>W.cell? ⟨g,o+k*2,none⟩=some (.int .i64 (f k).1)∧W.cell? ⟨g,o+k*2+1,none⟩=some (.int .i64 (f k).2)∧W.cell? ⟨w.heap.size,0,none⟩=some (.int .i64 a)∧W.cell? ⟨w.heap.size,1,none⟩=some (.int .i64 b)∧wr.heap.size≤W.heap.size∧Below (w.heap.size+1) (w.alloc (.cells #[.int .i64 a,.int .i64 b] 61)) W)) (by kernel_rfl) (⟨hc0,hc1,hx0,hx1,bK _,HB.out.drew⟩) (fun ah=>?_)
    refine tk 0 ah ?_
    refine tk 1 ah ?_
    refine tk 2 ah ?_
    refine tk 3 ah ?_
    refine tk 4 ah ?_
    refine tk 5 ah ?_
    refine tk 6 ah ?_
    refine tk 7 ah ?_
    refine tk 8 ah ?_
    refine tk 9 ah ?_
    refine tk 10 ah ?_
    refine cZ 11 (fun K hK=>?_)
    go_simp
    go_at_call 311;refine (hrs _).mono ?_;rintro e w1 ⟨rfl,hb⟩
    refine hK.out _ _ (⟨(hb.cell (p:=⟨g,o+k*2,none⟩) (bV hgl ah.2.2.2.2.1)).trans ah.1,(hb.cell (p:=⟨g,o+k*2+1,none⟩) (bV hgl ah.2.2.2.2.1)).trans ah.2.1,(hb.cell (p:=⟨w.heap.size,0,none⟩) (bV hxl ah.2.2.2.2.1)).trans ah.2.2.1,(hb.cell (p:=⟨w.heap.size,1,none⟩) (bV hxl ah.2.2.2.2.1)).trans ah.2.2.2.1,eH ah.2.2.2.2.1 hb.size,ah.2.2.2.2.2.trans (hb.mono (eH hsz ah.2.2.2.2.1))⟩) (fun ah=>?_)
    clear hK K
    refine tk 12 ah ?_
    refine dQ ?_
    have HF:=aj ah.2.2.2.2.2
    clear ah
    go_wp2
    go_roundw
    case rel=>exact ⟨k+1,by omega,by go_num,kY.out,HF.out⟩
    case measure=>simp [intOf];omega
   ·have kY:=aj (show Ko n f a k from ⟨hk,HA.out,fun _=>hlo⟩)
    rw [decide_eq_false hlo] at hrs
    go_wp2_with fail
    refine dW (S:=(fun W=>W.cell? ⟨g,o+k*2,none⟩=some (.int .i64 (f k).1)∧W.cell? ⟨g,o+k*2+1,none⟩=some (.int .i64 (f k).2)∧W.cell? ⟨w.heap.size,0,none⟩=some (.int .i64 a)∧W.cell? ⟨w.heap.size,1,none⟩=some (.int .i64 b)∧wr.heap.size≤W.heap.size∧Below (w.heap.size+1) (w.alloc (.cells #[.int .i64 a,.int .i64 b] 61)) W)) (by kernel_rfl) (⟨hc0,hc1,hx0,hx1,bK _,HB.out.drew⟩) (fun ah=>?_)
    refine tk 0 ah ?_
    refine tk 1 ah ?_
    refine tk 2 ah ?_
    refine tk 3 ah ?_
    refine tk 4 ah ?_
    refine tk 5 ah ?_
    refine tk 6 ah ?_
    refine tk 7 ah ?_
    refine tk 8 ah ?_
    refine tk 9 ah ?_
    refine tk 10 ah ?_
    refine cZ 11 (fun K hK=>?_)
    go_simp
    go_at_call 311;refine (hrs _).mono ?_;rintro e w1 ⟨rfl,hb⟩
    refine hK.out _ _ (⟨(hb.cell (p:=⟨g,o+k*2,none⟩) (bV hgl ah.2.2.2.2.1)).trans ah.1,(hb.cell (p:=⟨g,o+k*2+1,none⟩) (bV hgl ah.2.2.2.2.1)).trans ah.2.1,(hb.cell (p:=⟨w.heap.size,0,none⟩) (bV hxl ah.2.2.2.2.1)).trans ah.2.2.1,(hb.cell (p:=⟨w.heap.size,1,none⟩) (bV hxl ah.2.2.2.2.1)).trans ah.2.2.2.1,eH ah.2.2.2.2.1 hb.size,ah.2.2.2.2.2.trans (hb.mono (eH hsz ah.2.2.2.2.1))⟩) (fun ah=>?_)
    clear hK K
    refine tk 12 ah ?_
    refine dQ ?_
    have HF:=aj ah.2.2.2.2.2
    clear ah
    go_wp2
    go_ret
    exact ⟨k,rfl,kY.out,bel1 HF.out⟩
  ·obtain rfl:k=n:=by omega
   have kY:=aj (show Ko k f a k from ⟨hk,HA.out,fun h=>absurd h hlt⟩)
   have hkn:decide ((k:Int)<(k:Int))=false:=dU (by omega)
   have hkn':decide (k<k)=false:=dU (by omega)
   clear hb
   go_wp2_with fail
   refine dW (S:=(fun W=>W.cell? ⟨w.heap.size,0,none⟩=some (.int .i64 a)∧W.cell? ⟨w.heap.size,1,none⟩=some (.int .i64 b)∧wr.heap.size≤W.heap.size∧Below (w.heap.size+1) (w.alloc (.cells #[.int .i64 a,.int .i64 b] 61)) W)) (by kernel_rfl) (⟨hx0,hx1,bK _,HB.out.drew⟩) (fun ah=>?_)
   refine tk 0 ah ?_
   refine tk 1 ah ?_
   refine tk 2 ah ?_
   refine tk 3 ah ?_
   refine tk 4 ah ?_
   refine tn 5 ah ?_
   refine tn 6 ah ?_
   refine tn 7 ah ?_
   refine tn 8 ah ?_
   refine tn 9 ah ?_
   refine tn 10 ah ?_
   refine tn 11 ah ?_
   refine tk 12 ah ?_
   refine dQ ?_
   have HF:=aj ah.2.2.2
   clear ah
   go_wp2
   go_ret
   exact ⟨k,rfl,kY.out,bel1 HF.out⟩
end
end Go.Proofs.YtlhfiapfncikdaaGreatDoor.bJ
