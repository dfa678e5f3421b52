import Derived.Test.YtlhfiapfncikdaaGreatDoorPU23
import Derived.Test.YtlhfiapfncikdaaGreatDoorPU32
set_option linter.unusedVariables false
set_option linter.unusedSimpArgs false
set_option maxRecDepth 100000
set_option maxHeartbeats 3200000
namespace Go.Proofs.YtlhfiapfncikdaaGreatDoor.aP
section
open Go.RowKit bN bP bJ bM
def IxP (L:List bL)(p:bL→Bool)(W:World)(e:Ending)(w':World):Prop:=
 ∃ z:Int,e=.returned (.int .i64 z)∧Below W.heap.size W w'∧((z=-1∧∀ (i:Nat) x,L[i]? = some x→p x=false)∨∃ (q:Nat) (x:bL),z=(q:Int)∧L[q]? = some x∧p x=true∧∀ (i:Nat) y,i<q→L[i]? = some y→p y=false)
theorem V5 {L:List bL}{p:bL→Bool}{W:World}{e:Ending}{w':World}(h:IxP L p W e w'):∃ z:Int,e=.returned (.int .i64 z)∧Below W.heap.size W w'∧((z=-1∧∀ (i:Nat) x,L[i]? = some x→p x=false)∨∃ (q:Nat)(x:bL),z=(q:Int)∧L[q]? = some x∧p x=true∧∀ (i:Nat) y,i<q→L[i]? = some y→p y=false):=h
def aaN (F bx:Nat)(v0:Value)(p:bL→Bool):Prop:=∀ (w:World)(x0 x1:Int),w.cell? ⟨bx,0,none⟩=some v0→Calls Tryz.prog F #[.agg #[.int .i64 x0,.int .i64 x1],.pointer (some ⟨bx,0,none⟩)] w (sD (p (x0,x1)) w)
theorem Fj {F bx:Nat}{v0:Value}{p:bL→Bool}(eg:∀ args w,(callFunc F args).run Tryz.prog w=.ok (.enter F args) w)(hp:aaN F bx v0 p){L:List bL}{a:Option Addr}{c:Nat}{W:World}(hbx:W.cell? ⟨bx,0,none⟩=some v0)(hbl:bx<W.heap.size)(h:aH bg W W.heap.size L a c) :
 Calls Tryz.prog 183 #[.slice a L.length c,.func (.func F) #[] #[.pointer (some ⟨bx,0,none⟩)]] W (IxP L p W):=by
 have H:=aj h
 have HP:=aj hp
 have HX:=aj hbx
 have hn:L.length≤9223372036854775807:=by have h1:=h.1;have h2:=h.2.1;unfold maxLen at h2;omega
 clear h hp hbx
 go_enter Tryz.func183,Tryz.ntmps183
 go_wp2
 go_loopw [8] (fun i wr=>∃ k:Nat,k≤L.length∧i=.int .i64 k∧Hid (∀ i x,i<k→L[i]? = some x→p x=false)∧Below W.heap.size W wr) (fun i _=>L.length-(intOf i).toNat)
 case atStart=>exact ⟨0,dX _,rfl,aj fun i x h=>absurd h (gT _),aU _ _⟩
 case round=>
  obtain ⟨k,hk,rfl,HA,hB⟩:=hrel
  have HB:=aj hB
  have hsz:=hB.size
  by_cases hlt:k<L.length
  ·obtain ⟨x,hx⟩:=aL hlt
   obtain ⟨g,o,us,rfl,hg,hu,hr⟩:=H.out.at_ hx
   obtain ⟨x0,x1⟩:=x
   obtain rfl:=nH hr
   have e0:wr.cell? ⟨g,o+k*2,none⟩=some (.int .i64 x0):=(hB.cell (p:=⟨g,o+k*2,none⟩) hg).trans (by simpa [dL] using hu 0 _ rfl)
   have e1:wr.cell? ⟨g,o+k*2+1,none⟩=some (.int .i64 x1):=(hB.cell (p:=⟨g,o+k*2+1,none⟩) hg).trans (by simpa [dL,Nat.add_assoc] using hu 1 _ rfl)
   have hi0:(0:Int)≤(k:Int):=eu _
   have hi1:(k:Int)<(L.length:Int):=by omega
   have HL:=aj hx
   have hcl:=HP.out wr x0 x1 ((hB.cell (p:=⟨bx,0,none⟩) hbl).trans HX.out)
   have HC:=aj hcl
   clear hB hx hu hr hcl
   go_wp2_with fail
   refine HC.out.mono ?_
   intro e w1 h
   obtain ⟨rfl,hb⟩:=bT h
   have HB1:=aj (HB.out.trans (hb.mono hsz))
   clear h hb e0 e1
   obtain ⟨b,hb⟩:∃ b,p (x0,x1)=b:=⟨_,rfl⟩
   have HBb:=aj hb
   rw [hb]
   clear hb
   cases b with
   | true=>
    go_wp2
    go_ret
    exact ⟨_,rfl,HB1.out,.inr ⟨k,(x0,x1),rfl,HL.out,HBb.out,HA.out⟩⟩
   | false=>
    have HA2:=aj (show ∀ i x,i<k+1→L[i]? = some x→p x=false from fun i x hi hx=>by
     rcases Nat.lt_succ_iff_lt_or_eq.1 hi with h | h
     ·exact HA.out i x h hx
     ·subst h;have h9:=HL.out;rw [hx] at h9;cases h9;exact HBb.out)
    go_wp2
    go_roundw
    case rel=>exact ⟨k+1,by omega,by go_num,HA2,HB1.out⟩
    case measure=>simp [intOf];omega
  ·have hdl:decide ((k:Int)<(L.length:Int))=false:=dU (by omega)
   obtain rfl:k=L.length:=by omega
   clear hB
   go_wp2
   go_ret
   exact ⟨-1,rfl,HB.out,.inl ⟨rfl,fun i x hx=>HA.out i x (jE hx) hx⟩⟩
section
variable {W wr w':World}{L:List bL}{g j:Nat}{p:bL→Bool}
end
def ChgR (wq:World)(S:Nat→Prop)(ng:aO→Int×aO)(M:List aO)(g k:Nat)(x:aO)(e:Ending)(w':World):Prop:=
 e=.returned (.int .i64 (ng x).1)∧Off S wq w'∧((ng x).1=0→∃ S' zQ,Row aJ w' S' (M.set k (ng x).2) g zQ∧∀ q,S' q→(S q∨wq.heap.size≤q)∧q<w'.heap.size)
theorem Ri {wq:World}{S:Nat→Prop}{ng:aO→Int×aO}{M:List aO}{g k:Nat}{x:aO}{e:Ending}{w':World}(h:ChgR wq S ng M g k x e w'):e=.returned (.int .i64 (ng x).1)∧Off S wq w'∧((ng x).1=0→∃ S' zQ,Row aJ w' S' (M.set k (ng x).2) g zQ∧∀ q,S' q→(S q∨wq.heap.size≤q)∧q<w'.heap.size):=h
def ChgF (F:Nat)(lb:Array Value)(ng:aO→Int×aO)(W:World):Prop:=
 ∀ (wq:World) (S:Nat→Prop) (M:List aO) (g k:Nat) (Sf:Nat→Nat→Prop) (x:aO),Row aJ wq S M g Sf→(∀ q,S q→q<wq.heap.size)→(∀ q,S q→W.heap.size≤q)→Below W.heap.size W wq→M[k]? = some x→Pb x →
  Calls Tryz.prog F (#[.pointer (some ⟨g,k*2,none⟩)]++lb) wq (ChgR wq S ng M g k x)
theorem lC {W w':World}{c:Int}(hb:Below W.heap.size W w'):kU eU ([],c) W (.returned (.agg #[.slice none 0 0,.int .i64 c])) w':=
 ⟨[.slice none 0 0,.int .i64 c],rfl,oz (T0:=fun _=>False) (L0:=[]) (fun k h=>h.elim) ⟨bK _,dX _,fun h=>absurd h (jK _)⟩,hb⟩
theorem Ec {L:List aO}{n:Int}{ok:Bool}{ng:aO→Int×aO}(h:400<L.length):kM L n ok ng=([],2):=by unfold kM;rw [if_pos h]
theorem Ed {L:List aO}{n:Int}{ok:Bool}{ng:aO→Int×aO}(h:¬400<L.length)(h2:(iX L&&ok)=false):kM L n ok ng=([],1):=by unfold kM;rw [if_neg h,if_pos h2]
theorem yg {L:List aO}{n:Int}{ok:Bool}{ng:aO→Int×aO}(h:¬400<L.length)(h2:(iX L&&ok)=true)(h3:dI n 0 ((L.length:Int)-1)=false):kM L n ok ng=([],6):=by unfold kM;rw [if_neg h,if_neg (by rw [h2];decide),if_pos h3]
theorem ER {L:List aO}{m:Nat}{ok:Bool}{ng:aO→Int×aO}{x:aO}(h:¬400<L.length)(h2:(iX L&&ok)=true)(hx:L[m]? = some x):kM L m ok ng=if (ng x).1=0 then (L.set m (ng x).2,0) else ([],(ng x).1):=by
 have hm:=jE hx
 have h3:dI (m:Int) 0 ((L.length:Int)-1)=true:=(dG _ _ _).2 ⟨by omega,by omega⟩
 unfold kM
 rw [if_neg h,if_neg (by rw [h2];decide),if_neg (by rw [h3];decide),Int.toNat_natCast,hx]
theorem Jq {F:Nat}{lb:Array Value}{ng:aO→Int×aO}(eg:∀ args w,(callFunc F args).run Tryz.prog w=.ok (.enter F args) w){L:List aO}{n:Int}{ok:Bool}{a:Option Addr}{cap:Nat}{W:World}(h:aH aJ W W.heap.size L a cap)(hF:ChgF F lb ng W) :
 Calls Tryz.prog 171 #[.slice a L.length cap,.int .i64 n,.bool ok,.func (.func F) #[] lb] W (kU eU (kM L n ok ng) W):=by
 obtain ⟨w0,hw0⟩:∃ w,w=W.alloc (.cells #[.slice none 0 0,.int .i64 0] 95):=⟨_,rfl⟩
 have hb0:Below W.heap.size W w0:=by rw [hw0];exact (aU _ _).alloc (bK _) _
 have X0:=aj (show aN w0 W.heap.size 95 #[.slice none 0 0,.int .i64 0] from by rw [hw0];exact aN.new _ _ _)
 have H0:=aj (oG aK h hb0)
 have HB0:=aj hb0
 have HF:=aj hF
 have HEG:=aj eg
 have hnn:=EC h
 have hz0:=hb0.size
 have hs:=G6 H0.out
 obtain ⟨z,hz⟩:∃ z,iX L=z:=⟨_,rfl⟩
 rw [hz] at hs
 have HZ:=aj hz
 clear h hF eg hz hb0
 by_cases Ew:400<L.length
 ·rw [Ec Ew]
  have hd:decide ((400:Int)<(L.length:Int))=true:=eO (by omega)
  go_enter Tryz.func171,Tryz.ntmps171
  go_wp2
  refine qA (v:=.agg #[.slice none 0 0,.int .i64 2]) (by simp [results,Tryz.results171,go_sem, *]) rfl (lC ?_)
  first | exact (aU _ _).alloc (bK _) _ | exact ((aU _ _).alloc (bK _) _).setCell (by first | omega | simp) _
 have hd:decide ((400:Int)<(L.length:Int))=false:=dU (by omega)
 go_enter Tryz.func171,Tryz.ntmps171
 go_wp2_with fail
 rw [←hw0]
 clear hw0
 refine hs.mono ?_
 intro e w1 h
 obtain ⟨rfl,hb⟩:=bT h
 have X1:=aj (X0.out.call hb)
 have H1:=aj (oG aK H0.out hb)
 have HB1:=aj (HB0.out.trans (hb.mono hz0))
 obtain ⟨q0,q1⟩:=X1.out.kZ rfl
 obtain ⟨f0,f1⟩:=X1.out.Cz
 clear h hb hs
 by_cases hzo:(z&&ok)=false
 ·have HE:=aj (Ed (n:=n) (ng:=ng) Ew (show (iX L&&ok)=false from by rw [HZ.out];exact hzo))
  have key:z=false∨(z=true∧ok=false):=by cases z <;> cases ok <;> simp_all
  clear hzo
  rcases key with rfl | ⟨rfl,rfl⟩
  ·go_wp2
   rw [HE.out]
   refine qA (v:=.agg #[.slice none 0 0,.int .i64 1]) (by simp [results,Tryz.results171,go_sem, *]) rfl (lC ?_)
   exact (HB1.out.setCell (p:=⟨W.heap.size,0,none⟩) (bK _) _).setCell (p:=⟨W.heap.size,1,none⟩) (bK _) _
  ·go_wp2
   rw [HE.out]
   refine qA (v:=.agg #[.slice none 0 0,.int .i64 1]) (by simp [results,Tryz.results171,go_sem, *]) rfl (lC ?_)
   exact (HB1.out.setCell (p:=⟨W.heap.size,0,none⟩) (bK _) _).setCell (p:=⟨W.heap.size,1,none⟩) (bK _) _
 have hzo2:z=true∧ok=true:=by cases z <;> cases ok <;> simp_all
 obtain ⟨rfl,rfl⟩:=hzo2
 have HZO:=aj (show (iX L&&true)=true from by rw [HZ.out];rfl)
 have hN:=gF.1 HZ.out
 have hsm:=lJ hN
 have hL1:=hN.1.1
 have hL6:=hN.1.2
 have HN:=aj hN
 clear hzo hN
 have hwr:IntKind.i64.wrap ((L.length:Int)-1)=(L.length:Int)-1:=gJ _ (by omega)
 obtain ⟨y,hy⟩:∃ y,dI n 0 ((L.length:Int)-1)=y:=⟨_,rfl⟩
 have hi:=fun W=>lF n 0 ((L.length:Int)-1) W
 rw [hy] at hi
 have HY:=aj hy
 clear hy
 cases y with
 | false=>
  have HE:=aj (yg (ng:=ng) Ew HZO.out HY.out)
  go_wp2_with (go_at_call 191;refine (hi _).mono ?_;rintro e w' ⟨rfl,rfl⟩)
  rw [HE.out]
  refine qA (v:=.agg #[.slice none 0 0,.int .i64 6]) (by simp [results,Tryz.results171,go_sem, *]) rfl (lC ?_)
  exact (HB1.out.setCell (p:=⟨W.heap.size,0,none⟩) (bK _) _).setCell (p:=⟨W.heap.size,1,none⟩) (bK _) _
 | true=>
  have hnb:=(dG _ _ _).1 HY.out
  obtain ⟨m,rfl⟩:∃ m:Nat,n=m:=⟨n.toNat,by omega⟩
  have hm:m<L.length:=by omega
  obtain ⟨x,hx⟩:=aL hm
  have HV:=aj (ER (ng:=ng) Ew HZO.out hx)
  have kY:=aj (jB HN.out hx)
  have HX:=aj hx
  have hi0:(0:Int)≤(m:Int):=eu _
  have hi1:(m:Int)<(L.length:Int):=by omega
  clear hx hnb q0 q1 f0 f1
  go_wp2_with (first | (go_at_call 191;refine (hi _).mono ?_;rintro e w' ⟨rfl,rfl⟩) | fail)
  refine (yN hsm.1 (by omega) hsm.2 H1.out).mono ?_
  intro e w2 h
  obtain ⟨a',c',rfl,ho,hb⟩:=bI h
  obtain ⟨g,Sf,rfl,hrow⟩:=ho.row (by omega)
  have hc1:=ho.1
  have hc2:=ho.2.1
  have HB2:=aj (HB1.out.trans (hb.mono HB1.out.size))
  have X2:=aj (X1.out.call hb)
  have hsz12:=hb.size
  have hlt1:=X1.out.lt
  have hcl:=HF.out w2 _ L g m Sf x hrow (fun q hq=>hq.2) (fun q hq=>eH HB1.out.size hq.1) HB2.out HX.out kY.out
  have Mx:=aj hcl
  have eg:=HEG.out
  clear h ho hb hrow hcl hi hwr
  go_wp2_with fail
  refine Mx.out.mono ?_
  intro e w3 h
  obtain ⟨rfl,hof,hrow⟩:=Ri h
  have hz2:=HB2.out.size
  have hz3:=hof.size
  have hxl:=X2.out.lt
  have X3:=aj (show aN w3 W.heap.size 95 #[.slice none 0 0,.int .i64 0] from (hof.block W.heap.size hxl (fun h=>by have h9:w1.heap.size≤W.heap.size:=h.1;omega)).trans X2.out)
  have HB3:=aj (HB2.out.trans (hof.below hz2 fun q hq=>eH HB1.out.size hq.1))
  have HROW:=aj hrow
  have HVV:=aj HV.out
  obtain ⟨c,hc⟩:∃ c,(ng x).1=c:=⟨_,rfl⟩
  have HC:=aj hc
  rw [hc]
  obtain ⟨q0,q1⟩:=X3.out.kZ rfl
  obtain ⟨f0,f1⟩:=X3.out.Cz
  clear h hof hrow hc eg
  by_cases hc0:c=0
  ·have HC0:=aj hc0
   subst hc0
   go_wp2
   rw [HV.out,if_pos HC.out]
   obtain ⟨S',zQ,hR,hS⟩:=HROW.out HC.out
   refine qA (v:=.agg #[.slice (some ⟨g,0,none⟩) L.length c',.int .i64 0]) (by simp [results,Tryz.results171,go_sem, *]) rfl ⟨[.slice (some ⟨g,0,none⟩) (L.set m (ng x).2).length c',.int .i64 0],by rw [List.length_set],?_,(HB3.out.setCell (p:=⟨W.heap.size,0,none⟩) (bK _) _).setCell (p:=⟨W.heap.size,1,none⟩) (bK _) _⟩
   refine oz (T0:=S') (fun q hq=>?_) ((hR.slice (by rw [List.length_set];exact hc1) hc2).keep aK fun q hq=>?_)
   ·obtain ⟨h1,h2⟩:=hS q hq
    refine ⟨?_,by simp;exact h2⟩
    rcases h1 with h1 | h1
    ·exact eH HB1.out.size h1.1
    ·omega
   ·have hq2:q≠W.heap.size:=by
     obtain ⟨h1,h2⟩:=hS q hq
     rcases h1 with h1 | h1
     ·have h9:w1.heap.size≤q:=h1.1;omega
     ·omega
    rw [Below.heap_setCell _ ⟨W.heap.size,1,none⟩ _ q hq2,Below.heap_setCell _ ⟨W.heap.size,0,none⟩ _ q hq2]
  ·have hb:(c != 0)=true:=by simp [hc0]
   have HC0:=aj hc0
   clear hc0
   go_wp2
   rw [HV.out,if_neg (by rw [HC.out];exact HC0.out),HC.out]
   refine qA (v:=.agg #[.slice none 0 0,.int .i64 c]) (by simp [results,Tryz.results171,go_sem, *]) rfl (lC ?_)
   exact (HB3.out.setCell (p:=⟨W.heap.size,0,none⟩) (bK _) _).setCell (p:=⟨W.heap.size,1,none⟩) (bK _) _
end
section
open Go.RowKit bN bP
theorem E8 {W:World}{S:Nat→Prop}{L0:List (aO)}{x1:Int}{cs:List Value}(h:eU.ow W S (L0,x1) cs):∃ a0 c0,cs = [.slice a0 L0.length c0,.int .i64 x1]∧eU.ow W S (L0,x1) [.slice a0 L0.length c0,.int .i64 x1]:=by
 have h0:=h
 obtain ⟨a0,c0,T0,rfl,_⟩:=qU h
 exact ⟨a0,c0,rfl,h0⟩
theorem wP {L0:List (aO)}{x1:Int}:eU.cv (L0,x1)=bE (aJ).cm L0:=by
 simp only [eU,Pr,Sl,I,Bo,atom];omega
end
section
open Go.RowKit bN bP bJ bM
theorem Vt {α:Type}{E:Rp α}{W:World}{B:Nat}{L:List α}{a:Option Addr}{c:Nat}(h:aH E W B L a c)(n:Nat):aH E W B (L.take n) a c:=by
 refine ⟨by have:=h.1;rw [List.length_take];omega,h.2.1,fun hn=>?_⟩
 obtain ⟨g,o,ha,hg,hel⟩:=h.2.2 (by rw [List.length_take] at hn;omega)
 refine ⟨g,o,ha,hg,fun i x hx=>?_⟩
 rw [List.getElem?_take] at hx
 split at hx
 ·exact hel i x hx
 ·cases hx
theorem Zp {α:Type}{E:Rp α}{W:World}{B:Nat}{L:List α}{g o:Nat}{a:Option Addr}{c n:Nat}(h:aH E W B L (some ⟨g,o,none⟩) c)(ha:n<L.length→a=some ⟨g,o+n*E.size,none⟩):aH E W B (L.drop n) a (c-n):=by
 refine ⟨by have:=h.1;rw [List.length_drop];omega,eH (Nat.sub_le _ _) h.2.1,fun hn=>?_⟩
 rw [List.length_drop] at hn
 obtain ⟨g',o',e,hg,hel⟩:=h.2.2 (by omega)
 cases e
 refine ⟨g,o+n*E.size,ha (by omega),hg,fun i x hx=>?_⟩
 rw [List.getElem?_drop] at hx
 obtain ⟨us,hu,hr⟩:=hel _ x hx
 refine ⟨us,?_,hr⟩
 rw [show o+n*E.size+i*E.size=o+(n+i)*E.size by rw [Nat.add_mul];omega]
 exact hu
theorem Vu {w:World}{g:Nat}{Ls:List (List bL)}{cs:List Value}(h:aN w g 122 cs.toArray)(hl:cs.length=Ls.length)(hs:Ls.length≤4096)(hel:∀ (i:Nat)(M:List bL),Ls[i]? = some M→∃ (a:Option Addr)(c:Nat),cs[i]? = some (Value.slice a M.length c)∧aH bg w w.heap.size M a c):aH (Sl bg) w w.heap.size Ls (some ⟨g,0,none⟩) Ls.length:=by
 refine ⟨bK _,by unfold maxLen;omega,fun _=>⟨g,0,rfl,h.lt,fun i M hM=>?_⟩⟩
 obtain ⟨a,c,h1,h2⟩:=hel i M hM
 refine ⟨[.slice a M.length c],fun j d hj=>?_,a,c,rfl,h2⟩
 have hj0:j=0:=by have:=jE hj;simp at this;omega
 subst hj0
 simp at hj
 subst hj
 have:=h.at_ i (v:=Value.slice a M.length c) (by rw [List.getElem?_toArray];exact h1)
 simpa [show (Sl bg).size=1 from rfl] using this
theorem Row.EF {wq w3:World}{S T:Nat→Prop}{Sf:Nat→Nat→Prop}{L:List aO}{g k:Nat}{st:Int}{M M':List bL}{a:Option Addr}{c:Nat}(h:Row aJ wq S L g Sf)(hS:∀ q,S q→q<wq.heap.size)(hx:L[k]? = some (st,M))(hb:Below wq.heap.size wq w3)(hO:bG bg w3 T M' a c)(hT:∀ q,T q→wq.heap.size≤q∧q<w3.heap.size) :
 (∃ S' zQ,Row aJ (w3.setCell ⟨g,k*2+1,none⟩ (.slice a M'.length c)) S' (L.set k (st,M')) g zQ∧∀ q,S' q→(S q∨wq.heap.size≤q)∧q<(w3.setCell ⟨g,k*2+1,none⟩ (.slice a M'.length c)).heap.size)∧Off S wq (w3.setCell ⟨g,k*2+1,none⟩ (.slice a M'.length c)):=by
 obtain ⟨us,hu,hr⟩:=h.el k _ hx
 obtain ⟨ba,bc,T0,rfl,hT0,hM⟩:=vZ hr
 rw [eB] at hu
 have OJ:=hS g h.own
 have hsz:=hb.size
 have d0:w3.cell? ⟨g,k*2,none⟩=some (.int .i64 st):=(hb.cell (p:=⟨g,k*2,none⟩) OJ).trans (by simpa using hu 0 _ rfl)
 have d1:w3.cell? ⟨g,k*2+1,none⟩=some (.slice ba M.length bc):=(hb.cell (p:=⟨g,k*2+1,none⟩) OJ).trans (hu 1 _ rfl)
 have hset:∀ q,q≠g→(w3.setCell ⟨g,k*2+1,none⟩ (.slice a M'.length c)).heap[q]? = w3.heap[q]?:=fun q hq=>Below.heap_setCell w3 ⟨g,k*2+1,none⟩ _ q hq
 have hrow:=Row.put aK (T:=T) (x:=(st,M')) (us:=[.int .i64 st,.slice a M'.length c]) h hS
  (W':=w3.setCell ⟨g,k*2+1,none⟩ (.slice a M'.length c)) (by rw [eB];exact (nW.below hb OJ).trans (nW.set (lo:=k*2) (hi:=(k+1)*2) _ _ ⟨by omega,by omega⟩ _)) (fun q hq=>(hT q hq).1) (fun j d hd=>by
   rw [eB]
   match j,hd with
   | 0,hd=>simp at hd;subst hd;rw [Nat.add_zero,World.cell?_setCell_other _ _ _ _ (fun e=>by injection e with _ e2;omega)];exact d0
   | 1,hd=>simp at hd;subst hd;exact World.cell?_setCell_same _ _ _ d1
   | j+2,hd=>simp at hd) (lQ (fun q hq=>hq) (hO.keep bC fun q hq=>hset q (by have:=(hT q hq).1;omega)))
 refine ⟨⟨_,_,hrow,fun q hq=>?_⟩,((Off.refl _ wq).of_below hb).setCell (p:=⟨g,k*2+1,none⟩) h.own _⟩
 rcases hq with hq | hq
 ·have:=hS q hq
  exact ⟨.inl hq,by simp;omega⟩
 ·have:=hT q hq
  exact ⟨.inr this.1,by simp;omega⟩
theorem Ww (bx:Nat)(fZ:Int):aaN 184 bx (.int .i64 fZ) (fun x=>x.1==fZ):=fun w x0 x1 h=>by
 have hbl:=World.block_lt_of_cell? w ⟨bx,0,none⟩ h
 have hne:bx≠w.heap.size:=by have:bx<w.heap.size:=hbl;omega
 have h2:(w.alloc (.cells #[.int .i64 x0,.int .i64 x1] 61)).cell? ⟨bx,0,none⟩=some (.int .i64 fZ):=(((aU _ w).alloc (bK _) _).cell (p:=⟨bx,0,none⟩) hbl).trans h
 go_enter Tryz.func184,Tryz.ntmps184
 go_wp2
 go_ret
 exact ⟨rfl,(aU _ _).alloc (bK _) _⟩
theorem ZI {fZ:Int}{s:Int}{M:List bL}(h:∀ (i:Nat) x,M[i]? = some x→(x.1==fZ)=false):j5 fZ (s,M)=(6,(s,M)):=by
 have e:M.filter (fun s=>!decide (s.1=fZ))=M:=List.filter_eq_self.2 fun y hy=>by
  obtain ⟨i,hi,rfl⟩:=List.getElem_of_mem hy
  have:=h i _ (List.getElem?_eq_getElem hi)
  have h2:¬M[i].1=fZ:=by simpa using this
  simp [h2]
 unfold j5
 rw [if_pos (by rw [e])]
theorem Wz {fZ:Int}{s:Int}{M:List bL}(hS:JA M.length (gt M)){q:Nat}{x:bL}(hx:M[q]? = some x)(hq:(x.1==fZ)=true):j5 fZ (s,M)=(0,(s,M.take q++M.drop (q+1))):=by
 have e1:x.1=fZ:=by simpa using hq
 have e:=abQ hS hx
 rw [e1] at e
 have hl:=jE hx
 unfold j5
 rw [e]
 rw [if_neg (by rw [List.length_append,List.length_take,List.length_drop];show ¬_=M.length;omega)]
theorem ZH {bx:Nat}{fZ:Int}{W:World}(hbx:W.cell? ⟨bx,0,none⟩=some (.int .i64 fZ))(hbl:bx<W.heap.size):ChgF 182 #[.pointer (some ⟨bx,0,none⟩)] (j5 fZ) W:=fun wq S L g k Sf x hR hS1 hS2 hB hx hok=>by
 show Calls Tryz.prog 182 #[.pointer (some ⟨g,k*2,none⟩),.pointer (some ⟨bx,0,none⟩)] wq _
 obtain ⟨us,hu,hr⟩:=hR.el k x hx
 obtain ⟨s,M⟩:=x
 obtain ⟨ba,bc,T0,rfl,hT0,hO⟩:=vZ hr
 rw [eB] at hu
 have hgl:g<wq.heap.size:=hS1 g hR.own
 have e1:wq.cell? ⟨g,k*2+1,none⟩=some (.slice ba M.length bc):=hu 1 _ rfl
 have eb:wq.cell? ⟨bx,0,none⟩=some (.int .i64 fZ):=(hB.cell (p:=⟨bx,0,none⟩) hbl).trans hbx
 have hbl2:bx<wq.heap.size:=bV hbl hB.size
 have hrd:aH bg wq wq.heap.size M ba bc:=hO.rd bC fun q hq=>hS1 q (hR.sub k q (hT0 q hq)).1
 have L9:M.length≤4:=hok.2.1
 have HSP:=aj hok.2.2
 have hmf:∀ (fn:Fn) (first cap:Array Value) (w:World),(Instr.makeFunc fn first cap).run Tryz.prog w=.ok (.func fn first cap) w:=fun _ _ _ _=>rfl
 have eg:∀ args w,(callFunc 184 args).run Tryz.prog w=.ok (.enter 184 args) w:=enters_of Tryz.func184 (by kernel_rfl) rfl
 have hix:=Fj eg (Ww bx fZ) eb hbl2 hrd
 have HR:=aj hR
 have wX:=aj hS1
 have HX:=aj hx
 have HRD:=aj hrd
 have OU:=aj e1
 clear hR hS1 hT0 hO hx hu hr hok hB hS2 hbx hbl hrd eg eb
 go_enter Tryz.func182,Tryz.ntmps182
 go_wp2_with fail
 refine hix.mono ?_
 intro e w1 h
 obtain ⟨z,rfl,hb,hz⟩:=V5 h
 have HB:=aj hb
 have hsz:=hb.size
 clear h hb hix e1
 rcases hz with ⟨rfl,hall⟩ | ⟨q,x,rfl,hxq,hpx,hall⟩
 ·have HV:=aj (ZI (s:=s) hall)
  clear hall
  go_wp2
  go_ret
  exact ⟨by rw [HV.out];rfl,(Off.refl _ wq).of_below HB.out,fun h=>by rw [HV.out] at h;cases h⟩
 ·have HV:=aj (Wz (s:=s) HSP.out hxq hpx)
  have hq:=jE hxq
  have hn:decide ((q:Int)<0)=false:=dU (by omega)
  obtain ⟨gb,ob,rfl,_,_⟩:=HRD.out.2.2 (by omega)
  have hbc:=HRD.out.1
  have hbm:=HRD.out.2.1
  have hwr:IntKind.i64.wrap ((q:Int)+1)=(q:Int)+1:=gJ _ (by omega)
  have hq0:(0:Int)≤(q:Int):=eu _
  have hq1:(q:Int)≤(bc:Int):=by omega
  have hq2:(0:Int)≤(q:Int)+1:=by omega
  have hq3:(q:Int)+1≤(M.length:Int):=by omega
  have hq4:q≤bc:=by omega
  clear hall hxq hpx
  have HRD1:=aj (oG bC HRD.out HB.out)
  have hlt:(M.take q).length=q:=by rw [List.length_take];omega
  have hld:(M.drop (q+1)).length=M.length-(q+1):=List.length_drop ..
  have c1:w1.cell? ⟨g,k*2+1,none⟩=some (.slice (some ⟨gb,ob,none⟩) M.length bc):=(HB.out.cell (p:=⟨g,k*2+1,none⟩) hgl).trans OU.out
  obtain ⟨ad,had⟩:∃ ad:Option Addr,ad=if bc=q+1 then some ⟨gb,ob,none⟩ else some ⟨gb,ob+(q+1)*2,none⟩:=⟨_,rfl⟩
  obtain ⟨w2,hw2⟩:∃ w,w=(w1.alloc (.cells #[.slice (some ⟨gb,ob,none⟩) q bc,.slice ad (M.length-(q+1)) (bc-(q+1))] 122)).drew:=⟨_,rfl⟩
  have hb2:Below w1.heap.size w1 w2:=by rw [hw2];exact ((aU _ _).alloc (bK _) _).drew
  have X2:aN w2 w1.heap.size 122 #[.slice (some ⟨gb,ob,none⟩) q bc,.slice ad (M.length-(q+1)) (bc-(q+1))]:=by rw [hw2];exact aN.new w1 _ _
  have hrd2:=oG bC HRD1.out hb2
  have hbk:=Cb (Ls:=[M.take q,M.drop (q+1)]) (W:=w2) (by simp;omega) (Vu (cs:=[.slice (some ⟨gb,ob,none⟩) q bc,.slice ad (M.length-(q+1)) (bc-(q+1))]) X2 rfl (by simp) (fun i N hN=>by
   match i,hN with
   | 0,hN=>simp at hN;subst hN;exact ⟨_,_,by rw [hlt];rfl,Vt hrd2 q⟩
   | 1,hN=>simp at hN;subst hN;exact ⟨_,_,by rw [hld];rfl,Zp hrd2 (fun h=>by rw [had,if_neg (by omega),dL])⟩
   | i+2,hN=>simp at hN))
  rw [show ([M.take q,M.drop (q+1)]:List (List bL)).flatten=M.take q++M.drop (q+1) by simp] at hbk
  obtain ⟨R,hRR⟩:∃ R,M.take q++M.drop (q+1)=R:=⟨_,rfl⟩
  rw [hRR] at hbk HV
  have HBK:=aj hbk
  have HB2:=aj hb2
  rw [hw2] at HBK
  have HW2:=aj hw2
  have c1':w1.drew.cell? ⟨g,k*2+1,none⟩=some (.slice (some ⟨gb,ob,none⟩) M.length bc):=c1
  have HAD:=aj had
  clear hbk hb2 X2 hrd2 hlt hld hRR c1 had hw2
  by_cases hcap:bc=q+1
  ·have SS:=HAD.out
   rw [if_pos hcap] at SS
   subst SS
   have hqx:(q:Int)≤(q:Int)+1:=by omega
   subst hcap
   have hm0:M.length-(q+1)=0:=by omega
   simp only [Nat.sub_self,hm0] at HBK HW2
   clear hm0
   go_upto_region 4 with fail
   refine dW (S:=(fun V=>True)) (by kernel_rfl) (trivial) (fun ah=>?_)
   refine tk 0 ah ?_
   refine tk 1 ah ?_
   refine tk 2 ah ?_
   refine tk 3 ah ?_
   refine tk 5 ah ?_
   refine tk 7 ah ?_
   refine tk 8 ah ?_
   refine tk 9 ah ?_
   refine tk 11 ah ?_
   refine tk 12 ah ?_
   refine Z5 4 10 (fun K hK=>?_) (fun K hK=>?_)
   ·skip
    go_simp
    refine hK.out _ _ trivial (fun ah=>?_)
    clear hK K
    refine tk 6 ah ?_
    refine cZ 10 (fun K hK=>?_)
    go_simp
    refine hK.out _ _ trivial (fun ah=>?_)
    clear hK K
    refine tk 13 ah ?_
    refine cZ 14 (fun K hK=>?_)
    go_simp
    refine hK.out _ _ trivial (fun ah=>?_)
    clear hK K
    refine cZ 15 (fun K hK=>?_)
    go_simp
    go_at_call 181
    refine (HBK.out).mono ?_
    intro e w3 h
    obtain ⟨a3,c3,rfl,ho3,hb3⟩:=bI h
    rw [←HW2.out] at ho3 hb3
    have Cv:=aj ho3
    have HB3:=aj (HB2.out.trans (hb3.mono HB2.out.size))
    have hzq:=HB2.out.size
    have hz3:=hb3.size
    have d1:w3.cell? ⟨g,k*2+1,none⟩=some (.slice (some ⟨gb,ob,none⟩) M.length _):=(HB3.out.cell (p:=⟨g,k*2+1,none⟩) (show g<w1.heap.size by omega)).trans c1'
    have f1:w3.frozen? ⟨g,k*2+1,none⟩=false:=(HB3.out.frozen (p:=⟨g,k*2+1,none⟩) (show g<w1.heap.size by omega)).trans ((HB.out.frozen (p:=⟨g,k*2+1,none⟩) hgl).trans (HR.out.soft _))
    clear h ho3 hb3
    refine hK.out _ _ trivial (fun ah=>?_)
    clear hK K
    refine tk 16 ah ?_
    refine tk 17 ah ?_
    refine cZ 18 (fun K hK=>?_)
    go_simp
    refine hK.out _ _ trivial (fun ah=>?_)
    clear hK K
    refine dQ ?_
    clear ah
    go_wp2
    go_ret
    obtain ⟨hrow,hoff⟩:=Row.EF (T:=Rg w2.heap.size w3.heap.size) HR.out wX.out HX.out (HB.out.trans (HB3.out.mono hsz)) Cv.out (fun q hq=>⟨by have:=hq.1;omega,hq.2⟩)
    exact ⟨by rw [HV.out];rfl,hoff,fun _=>by rw [HV.out];exact hrow⟩
   ·skip
    go_simp
    refine hK.out _ _ trivial (fun ah=>?_)
    clear hK K
    refine tk 13 ah ?_
    refine cZ 4 (fun K hK=>?_)
    go_simp
    refine hK.out _ _ trivial (fun ah=>?_)
    clear hK K
    refine tk 6 ah ?_
    refine cZ 14 (fun K hK=>?_)
    go_simp
    refine hK.out _ _ trivial (fun ah=>?_)
    clear hK K
    refine cZ 15 (fun K hK=>?_)
    go_simp
    go_at_call 181
    refine (HBK.out).mono ?_
    intro e w3 h
    obtain ⟨a3,c3,rfl,ho3,hb3⟩:=bI h
    rw [←HW2.out] at ho3 hb3
    have Cv:=aj ho3
    have HB3:=aj (HB2.out.trans (hb3.mono HB2.out.size))
    have hzq:=HB2.out.size
    have hz3:=hb3.size
    have d1:w3.cell? ⟨g,k*2+1,none⟩=some (.slice (some ⟨gb,ob,none⟩) M.length _):=(HB3.out.cell (p:=⟨g,k*2+1,none⟩) (show g<w1.heap.size by omega)).trans c1'
    have f1:w3.frozen? ⟨g,k*2+1,none⟩=false:=(HB3.out.frozen (p:=⟨g,k*2+1,none⟩) (show g<w1.heap.size by omega)).trans ((HB.out.frozen (p:=⟨g,k*2+1,none⟩) hgl).trans (HR.out.soft _))
    clear h ho3 hb3
    refine hK.out _ _ trivial (fun ah=>?_)
    clear hK K
    refine tk 16 ah ?_
    refine tk 17 ah ?_
    refine cZ 18 (fun K hK=>?_)
    go_simp
    refine hK.out _ _ trivial (fun ah=>?_)
    clear hK K
    refine dQ ?_
    clear ah
    go_wp2
    go_ret
    obtain ⟨hrow,hoff⟩:=Row.EF (T:=Rg w2.heap.size w3.heap.size) HR.out wX.out HX.out (HB.out.trans (HB3.out.mono hsz)) Cv.out (fun q hq=>⟨by have:=hq.1;omega,hq.2⟩)
    exact ⟨by rw [HV.out];rfl,hoff,fun _=>by rw [HV.out];exact hrow⟩
  ·have SS:=HAD.out
   rw [if_neg hcap] at SS
   subst SS
   have hcap2:¬q+1=bc:=fun e=>hcap e.symm
   go_upto_region 4 with fail
   refine dW (S:=(fun V=>True)) (by kernel_rfl) (trivial) (fun ah=>?_)
   refine tk 0 ah ?_
   refine tk 1 ah ?_
   refine tk 2 ah ?_
   refine tk 3 ah ?_
   refine tk 5 ah ?_
   refine tk 7 ah ?_
   refine tk 8 ah ?_
   refine tk 9 ah ?_
   refine tk 11 ah ?_
   refine tk 12 ah ?_
   refine Z5 4 10 (fun K hK=>?_) (fun K hK=>?_)
   ·skip
    go_simp
    refine hK.out _ _ trivial (fun ah=>?_)
    clear hK K
    refine tk 6 ah ?_
    refine cZ 10 (fun K hK=>?_)
    go_simp
    refine hK.out _ _ trivial (fun ah=>?_)
    clear hK K
    refine tk 13 ah ?_
    refine cZ 14 (fun K hK=>?_)
    go_simp
    refine hK.out _ _ trivial (fun ah=>?_)
    clear hK K
    refine cZ 15 (fun K hK=>?_)
    go_simp
    go_at_call 181
    refine (HBK.out).mono ?_
    intro e w3 h
    obtain ⟨a3,c3,rfl,ho3,hb3⟩:=bI h
    rw [←HW2.out] at ho3 hb3
    have Cv:=aj ho3
    have HB3:=aj (HB2.out.trans (hb3.mono HB2.out.size))
    have hzq:=HB2.out.size
    have hz3:=hb3.size
    have d1:w3.cell? ⟨g,k*2+1,none⟩=some (.slice (some ⟨gb,ob,none⟩) M.length _):=(HB3.out.cell (p:=⟨g,k*2+1,none⟩) (show g<w1.heap.size by omega)).trans c1'
    have f1:w3.frozen? ⟨g,k*2+1,none⟩=false:=(HB3.out.frozen (p:=⟨g,k*2+1,none⟩) (show g<w1.heap.size by omega)).trans ((HB.out.frozen (p:=⟨g,k*2+1,none⟩) hgl).trans (HR.out.soft _))
    clear h ho3 hb3
    refine hK.out _ _ trivial (fun ah=>?_)
    clear hK K
    refine tk 16 ah ?_
    refine tk 17 ah ?_
    refine cZ 18 (fun K hK=>?_)
    go_simp
    refine hK.out _ _ trivial (fun ah=>?_)
    clear hK K
    refine dQ ?_
    clear ah
    go_wp2
    go_ret
    obtain ⟨hrow,hoff⟩:=Row.EF (T:=Rg w2.heap.size w3.heap.size) HR.out wX.out HX.out (HB.out.trans (HB3.out.mono hsz)) Cv.out (fun q hq=>⟨by have:=hq.1;omega,hq.2⟩)
    exact ⟨by rw [HV.out];rfl,hoff,fun _=>by rw [HV.out];exact hrow⟩
   ·skip
    go_simp
    refine hK.out _ _ trivial (fun ah=>?_)
    clear hK K
    refine tk 13 ah ?_
    refine cZ 4 (fun K hK=>?_)
    go_simp
    refine hK.out _ _ trivial (fun ah=>?_)
    clear hK K
    refine tk 6 ah ?_
    refine cZ 14 (fun K hK=>?_)
    go_simp
    refine hK.out _ _ trivial (fun ah=>?_)
    clear hK K
    refine cZ 15 (fun K hK=>?_)
    go_simp
    go_at_call 181
    refine (HBK.out).mono ?_
    intro e w3 h
    obtain ⟨a3,c3,rfl,ho3,hb3⟩:=bI h
    rw [←HW2.out] at ho3 hb3
    have Cv:=aj ho3
    have HB3:=aj (HB2.out.trans (hb3.mono HB2.out.size))
    have hzq:=HB2.out.size
    have hz3:=hb3.size
    have d1:w3.cell? ⟨g,k*2+1,none⟩=some (.slice (some ⟨gb,ob,none⟩) M.length _):=(HB3.out.cell (p:=⟨g,k*2+1,none⟩) (show g<w1.heap.size by omega)).trans c1'
    have f1:w3.frozen? ⟨g,k*2+1,none⟩=false:=(HB3.out.frozen (p:=⟨g,k*2+1,none⟩) (show g<w1.heap.size by omega)).trans ((HB.out.frozen (p:=⟨g,k*2+1,none⟩) hgl).trans (HR.out.soft _))
    clear h ho3 hb3
    refine hK.out _ _ trivial (fun ah=>?_)
    clear hK K
    refine tk 16 ah ?_
    refine tk 17 ah ?_
    refine cZ 18 (fun K hK=>?_)
    go_simp
    refine hK.out _ _ trivial (fun ah=>?_)
    clear hK K
    refine dQ ?_
    clear ah
    go_wp2
    go_ret
    obtain ⟨hrow,hoff⟩:=Row.EF (T:=Rg w2.heap.size w3.heap.size) HR.out wX.out HX.out (HB.out.trans (HB3.out.mono hsz)) Cv.out (fun q hq=>⟨by have:=hq.1;omega,hq.2⟩)
    exact ⟨by rw [HV.out];rfl,hoff,fun _=>by rw [HV.out];exact hrow⟩
theorem Wx {L:List aO}{n fZ:Int}{a:Option Addr}{cap:Nat}{W:World}(h:aH aJ W W.heap.size L a cap) :
 Calls Tryz.prog 119 #[.slice a L.length cap,.int .i64 n,.int .i64 fZ] W (kU eU (kM L n true (j5 fZ)) W):=by
 obtain ⟨w0,hw0⟩:∃ w,w=W.alloc (.cells #[.int .i64 fZ] 2):=⟨_,rfl⟩
 have hb0:Below W.heap.size W w0:=by rw [hw0];exact (aU _ _).alloc (bK _) _
 have hs0:w0.heap.size=W.heap.size+1:=by rw [hw0];simp
 have x0:aN w0 W.heap.size 2 #[.int .i64 fZ]:=by rw [hw0];exact aN.new _ _ _
 obtain ⟨w1,hw1⟩:∃ w,w=w0.alloc (.cells #[.slice none 0 0,.int .i64 0] 95):=⟨_,rfl⟩
 have hb1:Below w0.heap.size w0 w1:=by rw [hw1];exact (aU _ _).alloc (bK _) _
 have hs1:w1.heap.size=W.heap.size+2:=by rw [hw1];simp [hs0]
 have XR:=aj (show aN w1 (W.heap.size+1) 95 #[.slice none 0 0,.int .i64 0] from by rw [←hs0,hw1];exact aN.new _ _ _)
 have X1:=aj (x0.call hb1)
 have HB1:=aj (hb0.trans (hb1.mono hb0.size))
 have zR:=aj hs1
 have H:=aj (oG aK h HB1.out)
 have HCH:=aj (ZH (X1.out.at_ 0 rfl) X1.out.lt)
 have hmf:∀ (fn:Fn) (first cap:Array Value) (w:World),(Instr.makeFunc fn first cap).run Tryz.prog w=.ok (.func fn first cap) w:=fun _ _ _ _=>rfl
 have eg:∀ args w,(callFunc 182 args).run Tryz.prog w=.ok (.enter 182 args) w:=enters_of Tryz.func182 (by kernel_rfl) rfl
 have HEG:=aj eg
 clear eg h hb0 hb1 x0 hs1
 go_enter Tryz.func119,Tryz.ntmps119
 go_wp2_with fail
 rw [←hw0,←hw1]
 clear hw1 hw0 hs0
 refine (Jq HEG.out H.out HCH.out).mono ?_
 intro e w5 h
 obtain ⟨⟨R,cd⟩,hd⟩:∃ d,kM L n true (j5 fZ)=d:=⟨_,rfl⟩
 rw [hd] at h
 have Xv:=aj hd
 obtain ⟨us,rfl,hu,hb⟩:=bX h
 obtain ⟨a0,c0,rfl,hu⟩:=E8 hu
 have XR:=aj (XR.out.call hb)
 have ny:=aj (HB1.out.trans (hb.mono HB1.out.size))
 have HU:=aj hu
 obtain ⟨q0,q1⟩:=XR.out.kZ rfl
 obtain ⟨f0,f1⟩:=XR.out.Cz
 have hzr:=XR.out.lt
 have hz1:=hb.size
 clear h hu hb hd
 go_wp2
 refine qA (v:=.agg #[.slice a0 R.length c0,.int .i64 cd]) (by simp [results,Tryz.results119,go_sem, *]) rfl ⟨[.slice a0 R.length c0,.int .i64 cd],rfl,?_,(ny.out.setCell (p:=⟨W.heap.size+1,0,none⟩) (show W.heap.size≤W.heap.size+1 by omega) _).setCell (p:=⟨W.heap.size+1,1,none⟩) (show W.heap.size≤W.heap.size+1 by omega) _⟩
 have hsw:=zR.out
 rw [Xv.out]
 refine uh.pQ (uh.bU HU.out fun q hq=>?_) fun q hq=>⟨?_,?_⟩
 ·have hq1:=hq.1
  rw [Below.heap_setCell _ ⟨W.heap.size+1,1,none⟩ _ q (show q≠W.heap.size+1 by omega),Below.heap_setCell _ ⟨W.heap.size+1,0,none⟩ _ q (show q≠W.heap.size+1 by omega)]
 ·have hq1:=hq.1
  omega
 ·have hq2:=hq.2
  simp;exact hq2
theorem Wo {q:bL→Bool}{M:List bL}{j:Nat}{y:bL}(h:M[j]? = some y)(hq:q y=true):(M.take (j+1)).filter q=(M.take j).filter q++[y]:=by
 rw [←xO h,List.filter_append];simp [hq]
theorem ZE {q:bL→Bool}{M:List bL}{j:Nat}{y:bL}(h:M[j]? = some y)(hq:q y=false):(M.take (j+1)).filter q=(M.take j).filter q:=by
 rw [←xO h,List.filter_append];simp [hq]
theorem Row.books {W wr wq:World}{S Sf:_}{L:List aO}{g k:Nat}{st:Int}{M M':List bL}{v:Value}(h:Row aJ wr S L g Sf)(hS:∀ q,S q→W.heap.size≤q∧q<wr.heap.size)(hx:L[k]? = some (st,M))(hb:Below wr.heap.size wr wq)(hv:Gb wq wr.heap.size v M')(hW:Below W.heap.size W wr) :
 ∃ S' zQ,Row aJ (wq.setCell ⟨g,k*2+1,none⟩ v) S' (L.set k (st,M')) g zQ∧(∀ q,S' q→W.heap.size≤q∧q<(wq.setCell ⟨g,k*2+1,none⟩ v).heap.size)∧Below W.heap.size W (wq.setCell ⟨g,k*2+1,none⟩ v) ∧
  (∃ u,wq.cell? ⟨g,k*2+1,none⟩=some u)∧wq.frozen? ⟨g,k*2+1,none⟩=false:=by
 obtain ⟨us,hu,hr⟩:=h.el k _ hx
 obtain ⟨ba,bc,T0,rfl,hT0,hM⟩:=vZ hr
 rw [eB] at hu
 have OJ:=hS g h.own
 have hsz:=hb.size
 obtain ⟨va,vc,rfl,hO⟩:=hv.sl bC jT
 have d0:wq.cell? ⟨g,k*2,none⟩=some (.int .i64 st):=(hb.cell (p:=⟨g,k*2,none⟩) OJ.2).trans (by simpa using hu 0 _ rfl)
 have d1:wq.cell? ⟨g,k*2+1,none⟩=some (.slice ba M.length bc):=(hb.cell (p:=⟨g,k*2+1,none⟩) OJ.2).trans (hu 1 _ rfl)
 have hset:∀ q,q≠g→(wq.setCell ⟨g,k*2+1,none⟩ (.slice va M'.length vc)).heap[q]? = wq.heap[q]?:=fun q hq=>Below.heap_setCell wq ⟨g,k*2+1,none⟩ _ q hq
 have hrow:=Row.put aK (T:=fun q=>(Value.slice va M'.length vc).ownBlock=some q) (x:=(st,M')) (us:=[.int .i64 st,.slice va M'.length vc]) h (fun q hq=>(hS q hq).2)
  (W':=wq.setCell ⟨g,k*2+1,none⟩ (.slice va M'.length vc)) (by rw [eB];exact (nW.below hb OJ.2).trans (nW.set (lo:=k*2) (hi:=(k+1)*2) _ _ ⟨by omega,by omega⟩ _)) (fun q hq=>(hv.blk q hq).1) (fun j d hd=>by
   rw [eB]
   match j,hd with
   | 0,hd=>simp at hd;subst hd;rw [Nat.add_zero,World.cell?_setCell_other _ _ _ _ (fun e=>by injection e with _ e2;omega)];exact d0
   | 1,hd=>simp at hd;subst hd;exact World.cell?_setCell_same _ _ _ d1
   | j+2,hd=>simp at hd) (lQ (fun q hq=>hq) (hO.keep bC fun q hq=>hset q (by have:=(hv.blk q hq).1;omega)))
 refine ⟨_,_,hrow,fun q hq=>?_,(hW.trans (hb.mono hW.size)).setCell (p:=⟨g,k*2+1,none⟩) OJ.1 _,⟨_,d1⟩,(hb.frozen (p:=⟨g,k*2+1,none⟩) OJ.2).trans (h.soft _)⟩
 rcases hq with hq | hq
 ·have:=hS q hq
  simp;omega
 ·have:=hv.blk q hq
  have:=hW.size
  simp;omega
theorem wG (c:Int)(W:World):Calls Tryz.prog 106 #[.int .i64 c] W fun e w'=>e=.returned (.agg #[.slice none 0 0,.int .i64 c])∧Below W.heap.size W w':=by
 have HX:=aj (aN.new W 95 #[.slice none 0 0,.int .i64 0])
 go_enter Tryz.func106,Tryz.ntmps106
 go_wp2
 refine qA (v:=.agg #[.slice none 0 0,.int .i64 c]) (by simp [results,Tryz.results106,go_sem, *]) rfl ⟨rfl,?_⟩
 first | exact (aU _ _).alloc (bK _) _ | exact ((aU _ _).alloc (bK _) _).setCell (by first | omega | simp) _
theorem KJ {L:List aO}(a:Option Addr)(cap:Nat)(n:Int)(w:World)(hL:L.length≤4096) :
 Calls Tryz.prog 108 #[.slice a L.length cap,.int .i64 n] w fun e w'=>e=.returned (.bool (dI n 0 ((L.length:Int)-1)))∧w=w':=by
 by_cases h1:0≤n
 ·by_cases h2:n<L.length
  ·have hb:dI n 0 ((L.length:Int)-1)=true:=(dG _ _ _).2 ⟨h1,by omega⟩
   rw [hb];clear hb
   go_enter Tryz.func108,Tryz.ntmps108
   go_wp2
   go_ret
   exact ⟨rfl,rfl⟩
  ·have hb:dI n 0 ((L.length:Int)-1)=false:=by
    cases hq:dI n 0 ((L.length:Int)-1) with
    | false=>rfl
    | true=>have:=(dG _ _ _).1 hq;omega
   rw [hb];clear hb
   have h2':decide (n<(L.length:Int))=false:=by simpa using h2
   go_enter Tryz.func108,Tryz.ntmps108
   go_wp2
   go_ret
   exact ⟨rfl,rfl⟩
 ·have hb:dI n 0 ((L.length:Int)-1)=false:=by
   cases hq:dI n 0 ((L.length:Int)-1) with
   | false=>rfl
   | true=>have:=(dG _ _ _).1 hq;omega
  rw [hb];clear hb
  have h1':decide (0≤n)=false:=by simpa using h1
  go_enter Tryz.func108,Tryz.ntmps108
  go_wp2
  go_ret
  exact ⟨rfl,rfl⟩
theorem Wv {L:List aO}{n fZ:Int}{a:Option Addr}{cap:Nat}{W:World}(h:aH aJ W W.heap.size L a cap) :
 Calls Tryz.prog 57 #[.slice a L.length cap,.int .i64 n,.int .i64 fZ] W (kU eU (kM L n true (j5 fZ)) W):=by
 obtain ⟨w0,hw0⟩:∃ w,w=W.alloc (.cells #[.slice none 0 0,.int .i64 0] 95):=⟨_,rfl⟩
 have hb0:Below W.heap.size W w0:=by rw [hw0];exact (aU _ _).alloc (bK _) _
 have X0:=aj (show aN w0 W.heap.size 95 #[.slice none 0 0,.int .i64 0] from by rw [hw0];exact aN.new _ _ _)
 have H0:=aj (oG aK h hb0)
 have HB0:=aj hb0
 have hnn:=EC h
 have hz0:=hb0.size
 have hs:=G5 H0.out
 obtain ⟨z,hz⟩:∃ z,iX L=z:=⟨_,rfl⟩
 rw [hz] at hs
 have HZ:=aj hz
 clear h hz hb0
 by_cases Ew:400<L.length
 ·have HE:=aj (Ec (n:=n) (ok:=true) (ng:=j5 fZ) Ew)
  have hd:decide ((400:Int)<(L.length:Int))=true:=eO (by omega)
  go_enter Tryz.func57,Tryz.ntmps57
  go_wp2_with fail
  rw [←hw0]
  clear hw0
  refine (wG 2 _).mono ?_
  rintro e w9 ⟨rfl,zL⟩
  have X9:=aj (X0.out.call zL)
  have nu:=aj (HB0.out.trans (zL.mono HB0.out.size))
  obtain ⟨q0,q1⟩:=X9.out.kZ rfl
  obtain ⟨f0,f1⟩:=X9.out.Cz
  clear zL
  go_wp2
  rw [HE.out]
  refine qA (v:=.agg #[.slice none 0 0,.int .i64 2]) (by simp [results,Tryz.results57,go_sem, *]) rfl (lC ?_)
  exact (nu.out.setCell (p:=⟨W.heap.size,0,none⟩) (show W.heap.size≤W.heap.size by omega) _).setCell (p:=⟨W.heap.size,1,none⟩) (show W.heap.size≤W.heap.size by omega) _
 have hd:decide ((400:Int)<(L.length:Int))=false:=dU (by omega)
 go_enter Tryz.func57,Tryz.ntmps57
 go_wp2_with fail
 rw [←hw0]
 clear hw0
 refine hs.mono ?_
 intro e w1 h
 obtain ⟨rfl,hb⟩:=bT h
 have XR:=aj (X0.out.call hb)
 have H1:=aj (oG aK H0.out hb)
 have HB1:=aj (HB0.out.trans (hb.mono hz0))
 clear h hb hs
 cases z with
 | false=>
  have HE:=aj (Ed (n:=n) (ok:=true) (ng:=j5 fZ) Ew (by rw [HZ.out];rfl))
  go_wp2_with fail
  refine (wG 1 _).mono ?_
  rintro e w9 ⟨rfl,zL⟩
  have X9:=aj (XR.out.call zL)
  have nu:=aj (HB1.out.trans (zL.mono HB1.out.size))
  obtain ⟨q0,q1⟩:=X9.out.kZ rfl
  obtain ⟨f0,f1⟩:=X9.out.Cz
  clear zL
  go_wp2
  rw [HE.out]
  refine qA (v:=.agg #[.slice none 0 0,.int .i64 1]) (by simp [results,Tryz.results57,go_sem, *]) rfl (lC ?_)
  exact (nu.out.setCell (p:=⟨W.heap.size,0,none⟩) (show W.heap.size≤W.heap.size by omega) _).setCell (p:=⟨W.heap.size,1,none⟩) (show W.heap.size≤W.heap.size by omega) _
 | true=>
 have HZO:=aj (show (iX L&&true)=true from by rw [HZ.out];rfl)
 have hN:=gF.1 HZ.out
 have hsm:=lJ hN
 have hL1:=hN.1.1
 have hL6:=hN.1.2
 have HN:=aj hN
 clear hN
 obtain ⟨y,hy⟩:∃ y,dI n 0 ((L.length:Int)-1)=y:=⟨_,rfl⟩
 have hi:=fun W=>KJ (L:=L) a cap n W hsm.1
 rw [hy] at hi
 have HY:=aj hy
 clear hy
 cases y with
 | false=>
  have HE:=aj (yg (ng:=j5 fZ) Ew HZO.out HY.out)
  go_wp2_with (first | (go_at_call 108;refine (hi _).mono ?_;rintro e w' ⟨rfl,rfl⟩) | fail)
  refine (wG 6 _).mono ?_
  rintro e w9 ⟨rfl,zL⟩
  have X9:=aj (XR.out.call zL)
  have nu:=aj (HB1.out.trans (zL.mono HB1.out.size))
  obtain ⟨q0,q1⟩:=X9.out.kZ rfl
  obtain ⟨f0,f1⟩:=X9.out.Cz
  clear zL
  go_wp2
  rw [HE.out]
  refine qA (v:=.agg #[.slice none 0 0,.int .i64 6]) (by simp [results,Tryz.results57,go_sem, *]) rfl (lC ?_)
  exact (nu.out.setCell (p:=⟨W.heap.size,0,none⟩) (show W.heap.size≤W.heap.size by omega) _).setCell (p:=⟨W.heap.size,1,none⟩) (show W.heap.size≤W.heap.size by omega) _
 | true=>
  have hnb:=(dG _ _ _).1 HY.out
  obtain ⟨m,rfl⟩:∃ m:Nat,n=m:=⟨n.toNat,by omega⟩
  have hm:m<L.length:=by omega
  obtain ⟨x,hx⟩:=aL hm
  have hok:=jB HN.out hx
  obtain ⟨gl,o,us,rfl,hg,hu,hr⟩:=H1.out.at_ hx
  obtain ⟨s,M⟩:=x
  obtain ⟨ba,bc,rfl,hM⟩:=kJ hr
  have e1:w1.cell? ⟨gl,o+m*2+1,none⟩=some (.slice ba M.length bc):=by simpa [eB,Nat.add_assoc] using hu 1 _ rfl
  have HCV:=aj (ER (ng:=j5 fZ) Ew HZO.out hx)
  have hml:M.length≤4:=hok.2.1
  have HX:=aj hx
  have HM:=aj hM
  have OU:=aj e1
  have HG:=aj hg
  have hi0:(0:Int)≤(m:Int):=eu _
  have hi1:(m:Int)<(L.length:Int):=by omega
  clear hx hnb hu hr hM hok e1 hg
  go_wp2_with (first | (go_at_call 108;refine (hi _).mono ?_;rintro e w' ⟨rfl,rfl⟩) | fail)
  refine (qh hsm.1 hsm.2 H1.out).mono ?_
  intro e w2 h
  obtain ⟨a',c',rfl,ho,hb⟩:=bI h
  obtain ⟨g,Sf,rfl,hrow⟩:=ho.row (by omega)
  have hc1:=ho.1
  have hc2:=ho.2.1
  have HR:=aj hrow
  have HB2:=aj hb
  have hz2:=hb.size
  have hlt1:=XR.out.lt
  obtain ⟨w3,hw3⟩:∃ w,w=w2.alloc (.cells #[] 61):=⟨_,rfl⟩
  have HL3:=aj (show Gb w3 w2.heap.size (.slice (some ⟨w2.heap.size,0,none⟩) 0 0) ((M.take 0).filter fun s=>!decide (s.1=fZ)) from by rw [hw3];exact iU.made _ _ _ _)
  have HB3:=aj (show Below w2.heap.size w2 w3 from by rw [hw3];exact (aU _ _).alloc (bK _) _)
  clear h ho hb hrow hi
  go_wp2
  rw [←hw3]
  clear hw3
  go_loopw [9,8] (fun i v wq=>∃ j:Nat,j≤M.length∧i=.int .i64 j∧Hid (Gb wq w2.heap.size v ((M.take j).filter fun s=>!decide (s.1=fZ)))∧Hid (Below w2.heap.size w2 wq)) (fun i _ _=>M.length-(intOf i).toNat)
  case atStart=>exact ⟨0,dX _,rfl,HL3,HB3⟩
  case round=>
   obtain ⟨j,hj,rfl,HV,HQ⟩:=hrel
   rename World=>wq
   have hBW:Below w1.heap.size w1 wq:=HB2.out.trans (HQ.out.mono hz2)
   have hgw:gl<wq.heap.size:=bV HG.out hBW.size
   have e1:wq.cell? ⟨gl,o+m*2+1,none⟩=some (.slice ba M.length bc):=(hBW.cell (p:=⟨gl,o+m*2+1,none⟩) HG.out).trans OU.out
   obtain ⟨va,vc,rfl⟩:=HV.out.isSlice
   have hvl:((M.take j).filter fun s=>!decide (s.1=fZ)).length≤j:=eH (List.length_filter_le _ _) (by rw [List.length_take];omega)
   have hqz:=HQ.out.size
   by_cases hjl:j<M.length
   ·obtain ⟨y,hy⟩:=aL hjl
    obtain ⟨gb,ob,us,rfl,hgb,hu,hr⟩:=HM.out.at_ hy
    obtain ⟨y0,y1⟩:=y
    obtain rfl:=nH hr
    have c0:wq.cell? ⟨gb,ob+j*2,none⟩=some (.int .i64 y0):=(hBW.cell (p:=⟨gb,ob+j*2,none⟩) hgb).trans (by simpa [dL] using hu 0 _ rfl)
    have c1:wq.cell? ⟨gb,ob+j*2+1,none⟩=some (.int .i64 y1):=(hBW.cell (p:=⟨gb,ob+j*2+1,none⟩) hgb).trans (by simpa [dL,Nat.add_assoc] using hu 1 _ rfl)
    have hj0:(0:Int)≤(j:Int):=eu _
    have hj1:(j:Int)<(M.length:Int):=by omega
    by_cases hne:y0=fZ
    ·have hd:(y0 != fZ)=false:=by simp [hne]
     have HF:=aj (ZE (q:=fun s=>!decide (s.1=fZ)) hy (by simp [hne]))
     clear hBW hy hu hr hne
     go_wp2
     go_roundw
     case rel=>exact ⟨j+1,by omega,by go_num,aj (by rw [HF.out];exact HV.out),HQ⟩
     case measure=>simp [intOf];omega
    ·have hd:(y0 != fZ)=true:=by simp [hne]
     have HF:=aj (Wo (q:=fun s=>!decide (s.1=fZ)) hy (by simp [hne]))
     obtain ⟨w5,Df⟩:∃ w,w=wq.alloc (.cells #[.int .i64 y0,.int .i64 y1] 61):=⟨_,rfl⟩
     have hb5:Below wq.heap.size wq w5:=by rw [Df];exact (aU _ _).alloc (bK _) _
     have X5:aN w5 wq.heap.size 61 #[.int .i64 y0,.int .i64 y1]:=by rw [Df];exact aN.new _ _ _
     have uo:=hb5.size
     obtain ⟨a6,c6,w6,hrun,hrow,hb6⟩:=Gb.more (HV.out.call hb5) (Zl y0 y1 X5) (show w2.heap.size≤w5.heap.size by omega) (by simp only [List.length_singleton];omega)
     have Ah:=aj hrun
     rw [Df] at Ah
     have HV6:=aj hrow
     have HQ6:=aj ((HQ.out.trans (hb5.mono hqz)).trans hb6)
     clear hrun hrow hb5 hb6 X5 Df hBW hy hu hr hne
     go_wp2_with (at_builtin;refine dR rfl (.tmp 47) (.tmp 56) 122 rfl rfl rfl Ah.out ?_)
     go_roundw
     case rel=>exact ⟨j+1,by omega,by go_num,aj (by rw [HF.out];simpa using HV6.out),HQ6⟩
     case measure=>simp [intOf];omega
   ·have hdj:decide ((j:Int)<(M.length:Int))=false:=dU (by omega)
    obtain rfl:j=M.length:=by omega
    obtain ⟨N,hNN⟩:∃ N,M.filter (fun s=>!decide (s.1=fZ))=N:=⟨_,rfl⟩
    have HVM:=HV.out
    rw [List.take_length,hNN] at HVM
    have HVN:=aj (show Gb wq w2.heap.size (.slice va N.length vc) N from HVM)
    have hcu:j5 fZ (s,M)=if N.length=M.length then (6,(s,M)) else (0,(s,N)):=by unfold j5;rw [hNN]
    have hfl:(List.filter (fun s=>!decide (s.1=fZ)) (List.take M.length M)).length=N.length:=by rw [List.take_length,hNN]
    have hfl2:(List.filter (fun s=>!decide (s.1=fZ)) M).length=N.length:=by rw [hNN]
    have XQ:=aj (XR.out.call hBW)
    have HBQ:=aj (HB1.out.trans (hBW.mono HB1.out.size))
    have hBWz:=hBW.size
    clear hBW HVM hNN
    by_cases hNM:N.length=M.length
    ·have HE:=aj (show kM L m true (j5 fZ)=([],6) from by rw [HCV.out,hcu,if_pos hNM,if_neg (show ¬(6:Int)=0 by decide)])
     have hq:((N.length:Int)==(M.length:Int))=true:=beq_iff_eq.2 (by omega)
     clear hcu hNM
     go_wp2_with fail
     refine (wG 6 _).mono ?_
     rintro e w9 ⟨rfl,zL⟩
     have X9:=aj (XQ.out.call zL)
     have nu:=aj (HBQ.out.trans (zL.mono HBQ.out.size))
     obtain ⟨q0,q1⟩:=X9.out.kZ rfl
     obtain ⟨f0,f1⟩:=X9.out.Cz
     clear zL
     go_wp2
     rw [HE.out]
     refine qA (v:=.agg #[.slice none 0 0,.int .i64 6]) (by simp [results,Tryz.results57,go_sem, *]) rfl (lC ?_)
     exact (nu.out.setCell (p:=⟨W.heap.size,0,none⟩) (show W.heap.size≤W.heap.size by omega) _).setCell (p:=⟨W.heap.size,1,none⟩) (show W.heap.size≤W.heap.size by omega) _
    ·have HVV:=aj (show kM L m true (j5 fZ)=(L.set m (s,N),0) from by rw [HCV.out,hcu,if_neg hNM,if_pos rfl])
     have hq:((N.length:Int)==(M.length:Int))=false:=beq_eq_false_iff_ne.2 (by omega)
     obtain ⟨RR,hRR⟩:∃ R,L.set m (s,N)=R:=⟨_,rfl⟩
     have HRL:=aj (show RR.length=L.length from by rw [←hRR,List.length_set])
     rw [hRR] at HVV
     have HV:=HVV
     obtain ⟨S',Sf2,hrow,hS',hW',⟨u,d1⟩,f1⟩:=Row.books (W:=w1) HR.out (fun q hq=>hq) HX.out HQ.out HVN.out HB2.out
     rw [hRR] at hrow
     have hgw2:w1.heap.size≤g:=HR.out.own.1
     have hx6:aN (wq.setCell ⟨g,m*2+1,none⟩ (.slice va N.length vc)) W.heap.size 95 #[.slice none 0 0,.int .i64 0]:=XQ.out.far (by omega) _
     have hb6:Below W.heap.size W (wq.setCell ⟨g,m*2+1,none⟩ (.slice va N.length vc)):=HBQ.out.setCell (p:=⟨g,m*2+1,none⟩) (show W.heap.size≤g by omega) _
     have hs6:∀ q,S' q→W.heap.size<q∧q<(wq.setCell ⟨g,m*2+1,none⟩ (.slice va N.length vc)).heap.size:=fun q hq=>by have:=hS' q hq;omega
     clear hS' hW' hRR hcu hNM
     have X6:=aj hx6
     have wU:=aj hb6
     have HROW:=aj hrow
     have HS6:=aj hs6
     obtain ⟨q0,q1⟩:=X6.out.kZ rfl
     obtain ⟨f0,f1⟩:=X6.out.Cz
     clear hx6 hb6 hrow hs6
     go_wp2
     rw [HV.out]
     refine qA (v:=.agg #[.slice (some ⟨g,0,none⟩) L.length c',.int .i64 0]) (by simp [results,Tryz.results57,go_sem, *]) rfl ⟨[.slice (some ⟨g,0,none⟩) RR.length c',.int .i64 0],by rw [HRL.out],?_,(wU.out.setCell (p:=⟨W.heap.size,0,none⟩) (show W.heap.size≤W.heap.size by omega) _).setCell (p:=⟨W.heap.size,1,none⟩) (show W.heap.size≤W.heap.size by omega) _⟩
     refine oz (T0:=S') (fun q hq=>⟨?_,?_⟩) ((HROW.out.slice (by rw [HRL.out];exact hc1) hc2).keep aK fun q hq=>?_)
     ·have:=(HS6.out q hq).1
      omega
     ·have:=(HS6.out q hq).2
      simpa using this
     ·have h9:=(HS6.out q hq).1
      rw [Below.heap_setCell _ ⟨W.heap.size,1,none⟩ _ q (show q≠W.heap.size by omega),Below.heap_setCell _ ⟨W.heap.size,0,none⟩ _ q (show q≠W.heap.size by omega)]
end
section
open Go.ChangeShapes Go.WideShapes Go.ChangeAt Go.RowKit Go.Joins Go.Deep bN bP
theorem ZN:Tryz.prog.cellsOf 106=1:=by kernel_rfl
theorem U5:Tryz.prog.cellsOf 59=2:=by kernel_rfl
theorem VB:zC bg 59:=fun enc W fuel cs y h=>by
 obtain ⟨xs,n,_,_,hl,hlen,hf⟩:=DataW.trod_struct Tryz.underlying59 h
 rw [U5] at hl
 match cs,hl with
 | [c0,c1],_=>
  have e2:xs.length=2:=hlen
  match xs,e2 with
  | [y0,y1],_=>
   have g0:=qG hf 0 2 0 1 rfl fI
   have g1:=qG hf 1 2 1 1 rfl fI
   obtain ⟨d0,h0⟩:=fH enc W n [c0] y0 g0
   obtain ⟨d1,h1⟩:=fH enc W n [c1] y1 g1
   exact ⟨(d0,d1),⟨[c0],[c1],rfl,h0,h1⟩⟩
theorem Qw:zC (Sl bg) 106:=pJ VB (by decide) Tryz.underlying106 U5
theorem U7:Tryz.prog.cellsOf 108=2:=by kernel_rfl
theorem VE:zC aJ 108:=fun enc W fuel cs y h=>by
 obtain ⟨xs,n,_,_,hl,hlen,hf⟩:=DataW.trod_struct Tryz.underlying108 h
 rw [U7] at hl
 match cs,hl with
 | [c0,c1],_=>
  have e2:xs.length=2:=hlen
  match xs,e2 with
  | [y0,y1],_=>
   have g0:=qG hf 0 2 0 1 rfl fI
   have g1:=qG hf 1 106 1 1 rfl ZN
   obtain ⟨d0,h0⟩:=fH enc W n [c0] y0 g0
   obtain ⟨d1,h1⟩:=Qw enc W n [c1] y1 g1
   exact ⟨(d0,d1),⟨[c0],[c1],rfl,h0,h1⟩⟩
theorem Qz:zC (Sl aJ) 27:=pJ VE (by decide) Tryz.underlying27 U7
end
section
open Go.RowKit bN bP bJ bM
theorem Bl:∀ L:List bL,bE bg.cm L=2*L.length
 | []=>rfl
 | x::xs=>by
  simp only [bE,Bl xs,List.length_cons]
  have:bg.cm x=2:=rfl
  omega
theorem Ii:∀ L:List aO,bE aJ.cm L≤2*(Sl aJ).sz L
 | []=>dX _
 | x::xs=>by
  have h:=Ii xs
  have e:(Sl aJ).sz (x::xs)=(x::xs).length+(aJ.sz x+bE aJ.sz xs):=rfl
  have e2:(Sl aJ).sz xs=xs.length+bE aJ.sz xs:=rfl
  obtain ⟨s,b⟩:=x
  have e3:aJ.sz (s,b)=b.length:=by rw [GI,BP]
  have e4:aJ.cm (s,b)=1+bE bg.cm b:=rfl
  rw [e,e3]
  rw [e2] at h
  simp only [bE,List.length_cons]
  rw [e4,Bl]
  omega
theorem Q8 {L:List aO}(h:(Sl aJ).sz L≤1048576):(Sl aJ).cv L≤8388608:=by
 have:=Ii L
 show bE aJ.cm L≤_
 omega
end
section
open Go.ChangeShapes Go.WideShapes Go.ChangeAt Go.RowKit Go.Joins Go.Deep bN bP
theorem GU {H:Type}{enc:TypeId×Value→H}{W:World}{base:Nat}{v:Value}{d:DataW H}{p:List MemPlace}(o:Value.okWide Tryz.prog W .any base 2 v)(h:DataW.Trod enc Tryz.prog W 0 (fun _=>true) true 2 v d p):∃ q:Int,v=.int .i64 q:=by
 obtain ⟨a0,rfl,rfl,rfl,w0⟩:=open_int Tryz.underlying2 o h
 exact ⟨a0,rfl⟩
end
section
open Go.RowKit bN bP bJ bM
theorem Rh {L:List aO}{n:Int}{ok:Bool}{ng:aO→Int×aO}{d:mO}(hz:(Sl aJ).sz L≤1048576)(hc:∀ x,Pb x→(ng x).2.2.length≤5)(hd:kM L n ok ng=d):eU.cv d≤8388608:=by
 obtain ⟨R,c⟩:=d
 rw [wP]
 have key:∀ K:List aO,(∀ x∈K,x.2.length≤5)→bE aJ.cm K≤11*K.length:=by
  intro K hK
  induction K with
  | nil=>exact dX _
  | cons y ys ih=>
   have h1:=ih fun x hx=>hK x (by simp [hx])
   have h2:=hK y (by simp)
   obtain ⟨s,b⟩:=y
   have h3:aJ.cm (s,b)=1+bE bg.cm b:=rfl
   have h4:b.length≤5:=h2
   simp only [bE,List.length_cons]
   rw [h3,Bl]
   omega
 have hR:R = []∨(R.length≤6∧∀ x∈R,x.2.length≤5):=by
  unfold kM at hd
  split at hd
  ·exact .inl (congrArg Prod.fst hd).symm
  ·split at hd
   ·exact .inl (congrArg Prod.fst hd).symm
   ·rename_i h1 h2
    split at hd
    ·exact .inl (congrArg Prod.fst hd).symm
    ·split at hd
     ·exact .inl (congrArg Prod.fst hd).symm
     ·rename_i x hx
      split at hd
      ·have hN:qJ L:=gF.1 (by cases hq:iX L with
        | true=>rfl
        | false=>rw [hq] at h2;exact absurd rfl h2)
       have e:L.set n.toNat (ng x).2=R:=congrArg Prod.fst hd
       refine .inr ⟨by rw [←e,List.length_set];exact hN.1.2,fun y hy=>?_⟩
       rw [←e] at hy
       rcases List.mem_or_eq_of_mem_set hy with h | h
       ·have:=(hN.2 y h).2.1;omega
       ·rw [h];exact hc x (jB hN hx)
      ·exact .inl (congrArg Prod.fst hd).symm
 rcases hR with rfl | ⟨h1,h2⟩
 ·exact dX _
 ·have:=key R h2
  omega
theorem Q9 {L:List aO}{n fZ:Int}{d:mO}(hz:(Sl aJ).sz L≤1048576)(hd:kM L n true (j5 fZ)=d):eU.cv d≤8388608:=
 Rh hz (fun x hx=>by
  have h4:=hx.2.1
  have h5:=List.length_filter_le (fun s:bL=>!decide (s.1=fZ)) x.2
  unfold j5
  split
  ·show x.2.length≤5;omega
  ·show (x.2.filter _).length≤5;omega) hd
end
end Go.Proofs.YtlhfiapfncikdaaGreatDoor.aP
