import Derived.Test.YtlhfiapfncikdaaGreatDoorPN4
set_option linter.unusedVariables false
set_option linter.unusedSimpArgs false
set_option maxRecDepth 100000
set_option maxHeartbeats 3200000
namespace Go.Proofs.YtlhfiapfncikdaaGreatDoor
namespace bJ
section
open Go.RowKit bQ
def Qf (w:World)(b o n:Nat)(f:Nat→Int×Int):Prop:=∀ i,i<n→w.cell? ⟨b,o+i*2,none⟩=some (.int .i64 (f i).1)∧w.cell? ⟨b,o+i*2+1,none⟩=some (.int .i64 (f i).2)
theorem Qf.below {w W:World}{b o n B:Nat}{f:Nat→Int×Int}(h:Qf w b o n f)(hb:Below B w W)(hB:b<B):Qf W b o n f:=fun i hi=>
 ⟨(hb.cell (p:=⟨b,o+i*2,none⟩) hB).trans (h i hi).1,(hb.cell (p:=⟨b,o+i*2+1,none⟩) hB).trans (h i hi).2⟩
def okS (f:Nat→Int×Int)(i:Nat):Prop:=zX (f i).1 (f i).2=true∧(0<i→(f (i-1)).2≤(f i).1)
def Pj (n:Nat)(f:Nat→Int×Int):Prop:=n≤20∧∀ i,i<n→okS f i
def PA (W:World)(qa:Option Addr)(n:Nat)(f:Nat→Int×Int):Prop:=∀ i,i<n→∃ g o,qa=some ⟨g,o,none⟩∧g<W.heap.size∧W.cell? ⟨g,o+i*2,none⟩=some (.int .i64 (f i).1)∧W.cell? ⟨g,o+i*2+1,none⟩=some (.int .i64 (f i).2)
theorem PA.below {W W':World}{qa:Option Addr}{n B:Nat}{f:Nat→Int×Int}(h:PA W qa n f)(hb:Below B W W')(hB:W.heap.size≤B):PA W' qa n f:=fun i hi=>by
 obtain ⟨g,o,e,hg,h1,h2⟩:=h i hi
 exact ⟨g,o,e,bV hg hb.size,(hb.cell (p:=⟨g,_,none⟩) (bV hg hB)).trans h1,(hb.cell (p:=⟨g,_,none⟩) (bV hg hB)).trans h2⟩
theorem PA.bel {W W':World}{qa:Option Addr}{n:Nat}{f:Nat→Int×Int}(h:PA W qa n f)(hb:Below W.heap.size W W'):PA W' qa n f:=h.below hb (bK _)
theorem Qf.pa {W:World}{g o n:Nat}{f:Nat→Int×Int}(h:Qf W g o n f)(hg:g<W.heap.size):PA W (some ⟨g,o,none⟩) n f:=fun i hi=>⟨g,o,rfl,hg,(h i hi).1,(h i hi).2⟩
theorem PA.row {W:World}{g o n:Nat}{f:Nat→Int×Int}(h:PA W (some ⟨g,o,none⟩) n f):Qf W g o n f:=fun i hi=>by
 obtain ⟨g',o',e,_,h1,h2⟩:=h i hi
 cases e
 exact ⟨h1,h2⟩
theorem I5 (qa:Option Addr)(n qc:Nat)(f:Nat→Int×Int)(w:World)(hn:n≤1048576)(h1:PA w qa n f) :
 Calls Tryz.prog 161 #[.slice qa n qc] w (jf (Pj n f) w):=by
 have H1:=ak h1
 clear h1
 go_enter Tryz.func161,Tryz.ntmps161
 go_wp2
 go_loopw [3] (fun i wr=>∃ k:Nat,k≤n∧k≤21∧i=.int .i64 k∧(∀ j,j<k→okS f j)∧Below w.heap.size w wr) (fun i _=>n-(intOf i).toNat)
 case atStart=>exact ⟨0,dV _,by omega,rfl,fun j h=>absurd h (gZ _),aW _ _⟩
 case round=>
  obtain ⟨k,hk,hk21,rfl,hall,hb⟩:=hrel
  have HA:=ak hall
  have HB:=ak hb
  have hsz:=hb.size
  clear hall
  by_cases hlt:k<n
  ·by_cases h20:k≤20
   ·obtain ⟨g,o,rfl,hgl,hc0,hc1⟩:=(H1.out.bel hb) _ hlt
    have hi0:(0:Int)≤(k:Int):=eu _
    have hi1:(k:Int)<(n:Int):=by omega
    clear hb
    cases hr:zX (f k).1 (f k).2 with
    | false=>
     have Hno:=ak (show ¬Pj n f from fun h=>by have:=(h.2 k hlt).1;rw [hr] at this;cases this)
     have hrs:=fun W=>iM (f k).1 (f k).2 W
     rw [hr] at hrs
     clear hr
     go_wp2_with fail
     refine dX (S:=(fun W=>W.cell? ⟨g,o+k*2,none⟩=some (.int .i64 (f k).1)∧W.cell? ⟨g,o+k*2+1,none⟩=some (.int .i64 (f k).2)∧wr.heap.size≤W.heap.size∧Below w.heap.size w W)) (by kernel_rfl) (⟨hc0,hc1,bK _,HB.out.drew⟩) (fun ah=>?_)
     refine tk 0 ah ?_
     refine tk 1 ah ?_
     refine tk 2 ah ?_
     refine tk 3 ah ?_
     refine dw 4 (fun K hK=>?_)
     go_simp
     go_at_call 115;refine (hrs _).mono ?_;rintro e w1 ⟨rfl,hb⟩
     refine hK.out _ _ (⟨(hb.cell (p:=⟨g,o+k*2,none⟩) (bV hgl ah.2.2.1)).trans ah.1,(hb.cell (p:=⟨g,o+k*2+1,none⟩) (bV hgl ah.2.2.1)).trans ah.2.1,eF ah.2.2.1 hb.size,ah.2.2.2.trans (hb.mono (eF hsz ah.2.2.1))⟩) (fun ah=>?_)
     clear hK K
     refine tk 5 ah ?_
     refine tk 6 ah ?_
     refine tn 7 ah ?_
     refine tn 8 ah ?_
     refine tn 9 ah ?_
     refine tn 10 ah ?_
     refine tn 11 ah ?_
     refine tn 12 ah ?_
     refine tn 13 ah ?_
     refine tn 14 ah ?_
     refine tn 15 ah ?_
     refine tn 16 ah ?_
     refine tn 17 ah ?_
     refine tn 18 ah ?_
     refine tn 19 ah ?_
     refine tn 20 ah ?_
     refine tn 21 ah ?_
     refine tn 22 ah ?_
     refine tk 23 ah ?_
     refine dQ ?_
     have HF:=ak ah.2.2.2
     clear ah
     go_wp2
     go_ret
     exact aB Hno.out HF.out
    | true=>
     have hrs:=fun W=>iM (f k).1 (f k).2 W
     rw [hr] at hrs
     have Hr:=ak hr
     clear hr
     rcases Nat.eq_zero_or_pos k with hk0 | hk0
     ·subst hk0
      have hc0':wr.cell? ⟨g,o,none⟩=some (.int .i64 (f 0).1):=by simpa using hc0
      have hc1':wr.cell? ⟨g,o+1,none⟩=some (.int .i64 (f 0).2):=by simpa using hc1
      clear hc0 hc1
      have kX:=ak (iT HA.out ⟨Hr.out,fun h=>absurd h (jH _)⟩)
      go_wp2_with fail
      refine dX (S:=(fun W=>W.cell? ⟨g,o,none⟩=some (.int .i64 (f 0).1)∧W.cell? ⟨g,o+1,none⟩=some (.int .i64 (f 0).2)∧wr.heap.size≤W.heap.size∧Below w.heap.size w W)) (by kernel_rfl) (⟨hc0',hc1',bK _,HB.out.drew⟩) (fun ah=>?_)
      refine tk 0 ah ?_
      refine tk 1 ah ?_
      refine tk 2 ah ?_
      refine tk 3 ah ?_
      refine dw 4 (fun K hK=>?_)
      go_simp
      go_at_call 115;refine (hrs _).mono ?_;rintro e w1 ⟨rfl,hb⟩
      refine hK.out _ _ (⟨(hb.cell (p:=⟨g,o,none⟩) (bV hgl ah.2.2.1)).trans ah.1,(hb.cell (p:=⟨g,o+1,none⟩) (bV hgl ah.2.2.1)).trans ah.2.1,eF ah.2.2.1 hb.size,ah.2.2.2.trans (hb.mono (eF hsz ah.2.2.1))⟩) (fun ah=>?_)
      clear hK K
      refine tk 5 ah ?_
      refine tk 6 ah ?_
      refine tk 7 ah ?_
      refine tk 8 ah ?_
      refine tk 9 ah ?_
      refine tn 10 ah ?_
      refine tn 11 ah ?_
      refine tn 12 ah ?_
      refine tn 13 ah ?_
      refine tn 14 ah ?_
      refine tn 15 ah ?_
      refine tn 16 ah ?_
      refine tn 17 ah ?_
      refine tn 18 ah ?_
      refine tn 19 ah ?_
      refine tn 20 ah ?_
      refine tn 21 ah ?_
      refine tk 22 ah ?_
      refine tk 23 ah ?_
      refine dQ ?_
      have HF:=ak ah.2.2.2
      clear ah
      go_wp2
      go_roundw
      case rel=>exact ⟨1,by omega,by omega,by go_num,kX.out,HF.out⟩
      case measure=>simp [intOf];omega
     ·obtain ⟨j,rfl⟩:∃ j,k=j+1:=⟨k-1,by omega⟩
      obtain ⟨g2,o2,e2,_,hd0,hd1⟩:=(H1.out.bel HB.out) j (by omega)
      cases e2
      have hj0:(0:Int)≤(j:Int):=eu _
      have hj1:(j:Int)<(n:Int):=by omega
      have YP:IntKind.i64.wrap (j:Int)=(j:Int):=gK _ (by omega)
      have YR:(0:Int)≤(j:Int)+1:=by omega
      have YQ:(j:Int)+1<(n:Int):=by omega
      have XF:IntKind.i64.wrap ((j:Int)+1-1)=(j:Int):=(by rw [show (j:Int)+1-1=(j:Int) by omega];exact gK _ (by omega))
      have hjp:decide ((0:Int)<(j:Int)+1)=true:=eD (by omega)
      by_cases hlo:(f (j+1)).1<(f j).2
      ·have Hno:=ak (show ¬Pj n f from fun h=>by have h2:=(h.2 (j+1) hlt).2 (Nat.succ_pos _);simp only [Nat.add_sub_cancel] at h2;omega)
       have hlo':decide ((f (j+1)).1<(f j).2)=true:=eD hlo
       go_wp2_with fail
       refine dX (S:=(fun W=>W.cell? ⟨g,o+j*2,none⟩=some (.int .i64 (f j).1)∧W.cell? ⟨g,o+j*2+1,none⟩=some (.int .i64 (f j).2)∧W.cell? ⟨g,o+(j+1)*2,none⟩=some (.int .i64 (f (j+1)).1)∧W.cell? ⟨g,o+(j+1)*2+1,none⟩=some (.int .i64 (f (j+1)).2)∧wr.heap.size≤W.heap.size∧Below w.heap.size w W)) (by kernel_rfl) (⟨hd0,hd1,hc0,hc1,bK _,HB.out.drew⟩) (fun ah=>?_)
       refine tk 0 ah ?_
       refine tk 1 ah ?_
       refine tk 2 ah ?_
       refine tk 3 ah ?_
       refine dw 4 (fun K hK=>?_)
       go_simp
       go_at_call 115;refine (hrs _).mono ?_;rintro e w1 ⟨rfl,hb⟩
       refine hK.out _ _ (⟨(hb.cell (p:=⟨g,o+j*2,none⟩) (bV hgl ah.2.2.2.2.1)).trans ah.1,(hb.cell (p:=⟨g,o+j*2+1,none⟩) (bV hgl ah.2.2.2.2.1)).trans ah.2.1,(hb.cell (p:=⟨g,o+(j+1)*2,none⟩) (bV hgl ah.2.2.2.2.1)).trans ah.2.2.1,(hb.cell (p:=⟨g,o+(j+1)*2+1,none⟩) (bV hgl ah.2.2.2.2.1)).trans ah.2.2.2.1,eF ah.2.2.2.2.1 hb.size,ah.2.2.2.2.2.trans (hb.mono (eF hsz ah.2.2.2.2.1))⟩) (fun ah=>?_)
       clear hK K
       refine tk 5 ah ?_
       refine tk 6 ah ?_
       refine tk 7 ah ?_
       refine tk 8 ah ?_
       refine tk 9 ah ?_
       refine tk 10 ah ?_
       refine tk 11 ah ?_
       refine tk 12 ah ?_
       refine tk 13 ah ?_
       refine tk 14 ah ?_
       refine tk 15 ah ?_
       refine tk 16 ah ?_
       refine tk 17 ah ?_
       refine tk 18 ah ?_
       refine tk 19 ah ?_
       refine tk 20 ah ?_
       refine tk 21 ah ?_
       refine tk 22 ah ?_
       refine tk 23 ah ?_
       refine dQ ?_
       have HF:=ak ah.2.2.2.2.2
       clear ah
       go_wp2
       go_ret
       exact aB Hno.out HF.out
      ·have kX:=ak (iT HA.out (show okS f (j+1) from ⟨Hr.out,fun _=>by simp only [Nat.add_sub_cancel];omega⟩))
       have hlo':decide ((f (j+1)).1<(f j).2)=false:=dS hlo
       go_wp2_with fail
       refine dX (S:=(fun W=>W.cell? ⟨g,o+j*2,none⟩=some (.int .i64 (f j).1)∧W.cell? ⟨g,o+j*2+1,none⟩=some (.int .i64 (f j).2)∧W.cell? ⟨g,o+(j+1)*2,none⟩=some (.int .i64 (f (j+1)).1)∧W.cell? ⟨g,o+(j+1)*2+1,none⟩=some (.int .i64 (f (j+1)).2)∧wr.heap.size≤W.heap.size∧Below w.heap.size w W)) (by kernel_rfl) (⟨hd0,hd1,hc0,hc1,bK _,HB.out.drew⟩) (fun ah=>?_)
       refine tk 0 ah ?_
       refine tk 1 ah ?_
       refine tk 2 ah ?_
       refine tk 3 ah ?_
       refine dw 4 (fun K hK=>?_)
       go_simp
       go_at_call 115;refine (hrs _).mono ?_;rintro e w1 ⟨rfl,hb⟩
       refine hK.out _ _ (⟨(hb.cell (p:=⟨g,o+j*2,none⟩) (bV hgl ah.2.2.2.2.1)).trans ah.1,(hb.cell (p:=⟨g,o+j*2+1,none⟩) (bV hgl ah.2.2.2.2.1)).trans ah.2.1,(hb.cell (p:=⟨g,o+(j+1)*2,none⟩) (bV hgl ah.2.2.2.2.1)).trans ah.2.2.1,(hb.cell (p:=⟨g,o+(j+1)*2+1,none⟩) (bV hgl ah.2.2.2.2.1)).trans ah.2.2.2.1,eF ah.2.2.2.2.1 hb.size,ah.2.2.2.2.2.trans (hb.mono (eF hsz ah.2.2.2.2.1))⟩) (fun ah=>?_)
       clear hK K
       refine tk 5 ah ?_
       refine tk 6 ah ?_
       refine tk 7 ah ?_
       refine tk 8 ah ?_
       refine tk 9 ah ?_
       refine tk 10 ah ?_
       refine tk 11 ah ?_
       refine tk 12 ah ?_
       refine tk 13 ah ?_
       refine tk 14 ah ?_
       refine tk 15 ah ?_
       refine tk 16 ah ?_
       refine tk 17 ah ?_
       refine tk 18 ah ?_
       refine tk 19 ah ?_
       refine tk 20 ah ?_
       refine tk 21 ah ?_
       refine tk 22 ah ?_
       refine tk 23 ah ?_
       refine dQ ?_
       have HF:=ak ah.2.2.2.2.2
       clear ah
       go_wp2
       go_roundw
       case rel=>exact ⟨j+2,by omega,by omega,by go_num,kX.out,HF.out⟩
       case measure=>simp [intOf];omega
   ·have Hno:=ak (show ¬Pj n f from fun h=>by have:=h.1;omega)
    have hdk:decide ((k:Int)≤20)=false:=dS (by omega)
    have hdn:decide ((n:Int)≤20)=false:=dS (by omega)
    clear hb
    go_wp2
    go_ret
    exact aB Hno.out HB.out
  ·clear hb
   by_cases hn20:n≤20
   ·have Hy:=ak (show Pj n f from ⟨hn20,fun i hi=>HA.out i (by omega)⟩)
    have hdn:decide ((n:Int)≤20)=true:=eD (by omega)
    go_wp2
    go_ret
    exact bM Hy.out HB.out
   ·have Hno:=ak (show ¬Pj n f from fun h=>hn20 h.1)
    have hdn:decide ((n:Int)≤20)=false:=dS (by omega)
    go_wp2
    go_ret
    exact aB Hno.out HB.out
end
end bJ
end Go.Proofs.YtlhfiapfncikdaaGreatDoor
