import Derived.Test.YtlhfiapfncikdaaGreatDoorPN15
set_option linter.unusedVariables false
set_option linter.unusedSimpArgs false
set_option maxRecDepth 100000
set_option maxHeartbeats 3200000
namespace Go.Proofs.YtlhfiapfncikdaaGreatDoor
namespace aQ
section
open Go.RowKit bN bO bJ bQ eO
theorem aJ.take {α:Type}{E:Rp α}{W:World}{B:Nat}{L:List α}{a:Option Addr}{cap:Nat}(h:aJ E W B L a cap)(k:Nat):aJ E W B (L.take k) a cap:=by
 obtain ⟨h1,h2,h3⟩:=h
 refine ⟨eF (List.length_take_le' _ _) h1,h2,fun hn=>?_⟩
 have hl:0<L.length:=bV hn (List.length_take_le' _ _)
 obtain ⟨g,o,ha,hg,hc⟩:=h3 hl
 refine ⟨g,o,ha,hg,fun i x hx=>?_⟩
 rw [List.getElem?_take] at hx
 split at hx
 ·exact hc i x hx
 ·cases hx
theorem EX {x0 x1 x2 l0 l1 n:Int}:(((x0,x1),x2):ay×Int)=((l0,l1),n)↔decide (((x0,x1):Int×Int)=(l0,l1))=true∧(x2==n)=true:=by
 simp only [Prod.mk.injEq,decide_eq_true_eq,beq_iff_eq]
theorem Hu {L:List aF}{k:Nat}{x:aF}{a:ay×Int}(h:∀ (i:Nat)(y:aF),i<k→L[i]? = some y→nk y≠a)(hx:L[k]? = some x)(hk:nk x≠a):∀ (i:Nat)(y:aF),i<k+1→L[i]? = some y→nk y≠a:=fun i y hi hy=>by
 rcases Nat.lt_succ_iff_lt_or_eq.1 hi with h1 | h1
 ·exact h i y h1 hy
 ·subst h1;rw [hx] at hy;cases hy;exact hk
theorem E8 {L:List aF}{n:Nat}{a:Option Addr}{cap:Nat}{l0 l1 id:Int}{W:World}(hLn:L.length=n)(h:aJ aI W W.heap.size L a cap) :
 Calls Tryz.prog 67 #[.slice a n cap,.agg #[.int .i64 l0,.int .i64 l1],.int .i64 id] W fun e w'=>e=.returned (.int .i64 (vF L ((l0,l1),id)))∧Below W.heap.size W w':=by
 subst hLn
 have hn:L.length≤9223372036854775807:=by have h1:=h.1;have h2:=h.2.1;unfold maxLen at h2;omega
 have H:=ak h
 clear h
 obtain ⟨wa,MB⟩:∃ w,w=W.alloc (.cells #[.int .i64 l0,.int .i64 l1] 49):=⟨_,rfl⟩
 have JV:=ak (show Below W.heap.size W wa from by rw [MB];exact (aW _ _).alloc (bK _) _)
 have cZ:=ak (show aO wa W.heap.size 49 #[.int .i64 l0,.int .i64 l1] from by rw [MB];exact aO.new _ _ _)
 have HA1:=ak ((H.out.below aA JV.out).more aA JV.out.size)
 go_enter Tryz.func67,Tryz.ntmps67
 go_wp2_with fail
 rw [←MB]
 clear MB
 go_loopw [7] (fun i wr=>∃ k:Nat,k≤L.length∧i=.int .i64 k∧Hid (∀ (i:Nat) (y:aF),i<k→L[i]? = some y→nk y≠((l0,l1),id))∧Below wa.heap.size wa wr) (fun i _=>L.length-(intOf i).toNat)
 case atStart=>exact ⟨0,dV _,rfl,ak fun i y h=>absurd h (gZ _),aW _ _⟩
 case round=>
  obtain ⟨k,hk,rfl,HN,hB⟩:=hrel
  have HB:=ak hB
  have uJ:=ak (JV.out.trans (hB.mono JV.out.size))
  have hsz:=hB.size
  by_cases hlt:k<L.length
  ·skip
   obtain ⟨⟨⟨x0,x1⟩,x2,x3,x4,x5,x6,⟨x7,x8⟩,x9,x10,aS,aV,M⟩,hx⟩:=aM hlt
   have HX:=ak hx
   obtain ⟨g,o,us,rfl,hg,hu,hr⟩:=(HA1.out.below aA hB).at_ hx
   obtain ⟨ba,bc,rfl,sP,fH⟩:=fA hr
   obtain ⟨e0,e1,e2⟩:=Ko (a:=o+k*14) hu rfl
   have Sw:=ak (cZ.out.call hB)
   have q0:wr.cell? ⟨W.heap.size,0,none⟩=some (.int .i64 l0):=Sw.out.at_ 0 rfl
   have q1:wr.cell? ⟨W.heap.size,1,none⟩=some (.int .i64 l1):=Sw.out.at_ 1 rfl
   have hi0:(0:Int)≤(k:Int):=eu _
   have hi1:(k:Int)<(L.length:Int):=by omega
   obtain ⟨b,hb⟩:∃ b,decide (((x0,x1):Int×Int)=(l0,l1))=b:=⟨_,rfl⟩
   have hq:=iK x0 x1 l0 l1 b hb
   clear hu hr hg hB hx sP
   cases b with
   | false=>
    have Pp:=ak (Hu HN.out HX.out (fun he=>by have:=(EX.1 he).1;rw [hb] at this;cases this))
    clear hb
    go_wp2_with fail
    go_quiet (fail)
    all_goals
     go_wp2
     go_roundw
     case rel=>exact ⟨k+1,by omega,by go_num,ak Pp.out,by first | exact HB.out | exact HB.out.drew | exact fD HB.out _⟩
     case measure=>simp [intOf];omega
   | true=>
    obtain ⟨c,hc⟩:∃ c,(x2==id)=c:=⟨_,rfl⟩
    cases c with
    | false=>
     have Pp:=ak (Hu HN.out HX.out (fun he=>by have:=(EX.1 he).2;rw [hc] at this;cases this))
     clear hb
     go_wp2_with fail
     go_quiet (fail)
     all_goals
      go_wp2
      go_roundw
      case rel=>exact ⟨k+1,by omega,by go_num,ak Pp.out,by first | exact HB.out | exact HB.out.drew | exact fD HB.out _⟩
      case measure=>simp [intOf];omega
    | true=>
     have HF:=ak (show vF L ((l0,l1),id)=(k:Int) from O6 HN.out HX.out (EX.2 ⟨hb,hc⟩))
     clear hb
     go_wp2_with fail
     go_quiet (fail)
     all_goals
      go_wp2
      go_ret
      exact ⟨by rw [HF.out];rfl,by first | exact uJ.out | exact uJ.out.drew | exact fD uJ.out _⟩
  ·have hdl:decide ((k:Int)<(L.length:Int))=false:=dS (by omega)
   obtain rfl:k=L.length:=by omega
   have HF:=ak (show vF L ((l0,l1),id)=-1 from IK HN.out)
   clear hB
   go_wp2
   go_ret
   exact ⟨by rw [HF.out];rfl,uJ.out⟩
theorem Zy {x:aF}{cs:List Value}{W:World}(h:aI.rd W W.heap.size x cs):Calls Tryz.prog 123 #[.agg cs.toArray] W fun e w'=>e=.returned (.bool (Dr x))∧Below W.heap.size W w':=by
 obtain ⟨⟨x0,x1⟩,x2,x3,x4,x5,x6,⟨x7,x8⟩,x9,x10,aS,aV,M⟩:=x
 obtain ⟨ba,bc,rfl,k,b⟩:=fA h
 exact (KL b k).mono fun e w' h=>rT lN h
theorem Bz {L:List aF}{a:Option Addr}{cap:Nat}{W:World}(h:aJ aI W W.heap.size L a cap) :
 Calls Tryz.prog 68 #[.slice a L.length cap] W (sS (oH L) W):=by
 refine Calls.mono ?_ fun e w' h=>rT jo h
 have hn:L.length≤9223372036854775807:=by have h1:=h.1;have h2:=h.2.1;unfold maxLen at h2;omega
 have H:=ak h
 clear h
 by_cases h96:L.length≤96
 rotate_left
 ·have HN:=ak (show ¬pQ L from fun h=>h96 h.1)
  have hd:decide ((96:Int)<(L.length:Int))=true:=eD (by omega)
  go_enter Tryz.func68,Tryz.ntmps68
  go_wp2
  go_ret
  exact aB HN.out (aW _ _)
 have hd:decide ((96:Int)<(L.length:Int))=false:=dS (by omega)
 go_enter Tryz.func68,Tryz.ntmps68
 go_wp2
 go_loopw [3] (fun i wr=>∃ k:Nat,k≤L.length∧i=.int .i64 k∧Hid (Ar L k)∧Below W.heap.size W wr) (fun i _=>L.length-(intOf i).toNat)
 case atStart=>exact ⟨0,dV _,rfl,ak BG,aW _ _⟩
 case round=>
  obtain ⟨k,hk,rfl,HO,hB⟩:=hrel
  have HB:=ak hB
  have hsz:=hB.size
  by_cases hlt:k<L.length
  ·skip
   obtain ⟨⟨⟨x0,x1⟩,x2,x3,x4,x5,x6,⟨x7,x8⟩,x9,x10,aS,aV,M⟩,hx⟩:=aM hlt
   have HX:=ak hx
   obtain ⟨g,o,us,rfl,hg,hu,hr⟩:=(H.out.below aA hB).at_ hx
   have HRX:=ak hr
   obtain ⟨ba,bc,rfl,sP,fH⟩:=fA hr
   obtain ⟨e0,e1,e2,e3,e4,e5,e6,e7,e8,e9,e10,e11,e12,e13⟩:=kY (a:=o+k*14) hu rfl
   have hi0:(0:Int)≤(k:Int):=eu _
   have hi1:(k:Int)<(L.length:Int):=by omega
   obtain ⟨w1,hw1⟩:∃ w,w=wr.alloc (.cells #[.int .i64 x0,.int .i64 x1,.int .i64 x2,.string x3,.int .i64 x4,.int .i64 x5,.int .i64 x6,.int .i64 x7,.int .i64 x8,.int .i64 x9,.int .i64 x10,.int .i64 aS,.int .i64 aV,.slice ba M.length bc] 72):=⟨_,rfl⟩
   have iE:Below wr.heap.size wr w1:=by rw [hw1];exact (aW _ _).alloc (bK _) _
   have HG:=ak (bV hg hsz)
   have cZ:=ak (show aO w1 wr.heap.size 72 #[.int .i64 x0,.int .i64 x1,.int .i64 x2,.string x3,.int .i64 x4,.int .i64 x5,.int .i64 x6,.int .i64 x7,.int .i64 x8,.int .i64 x9,.int .i64 x10,.int .i64 aS,.int .i64 aV,.slice ba M.length bc] from by rw [hw1];exact aO.new _ _ _)
   have HB1:=ak (HB.out.trans (iE.mono hsz))
   have HZ1:=ak iE.size
   obtain ⟨q0,q1,q2,q3,q4,q5,q6,q7,q8,q9,Mx,Mw,Mv,FR⟩:=cZ.out.fF rfl
   have HR1:=ak ((aA.fG HRX.out (iE.mono hsz) |> fun h=>aA.jy h (eF hsz iE.size)))
   clear hu hr hg hB hx sP
   go_wp2_with fail
   rw [←hw1]
   clear hw1 iE e0 e1 e2 e3 e4 e5 e6 e7 e8 e9 e10 e11 e12 e13
   refine (Zy HR1.out).mono ?_
   rintro e w2 ⟨rfl,hb⟩
   have HB2:=ak (HB1.out.trans (hb.mono HB1.out.size))
   have iD:=ak (cZ.out.call hb)
   have HG2:=ak (show g<w2.heap.size from bV HG.out (eF HZ1.out hb.size))
   have HA2:=ak ((H.out.below aA HB2.out).more aA HB2.out.size)
   clear hb q0 q1 q2 q3 q4 q5 q6 q7 q8 q9 Mx Mw Mv FR
   cases hT:Dr ((x0,x1),x2,x3,x4,x5,x6,(x7,x8),x9,x10,aS,aV,M) with
   | false=>
    have HN:=ak (iC HX.out fun h=>by have h2:=lN.2 h.1;rw [hT] at h2;cases h2)
    clear hT
    go_wp2
    go_ret
    exact aB HN.out HB2.out
   | true=>
   have HT:=ak (lN.1 hT)
   have H1:=ak (show dH.rB x0 x1=true from HT.out.1)
   have hTL:=ak (show (L.take k).length=k from by rw [List.length_take];omega)
   clear hT
   by_cases hk0:k=0
   ·have hkd:((k:Int)==0)=true:=by simp [hk0]
    have HK0:=ak hk0
    clear hk0
    go_wp2_with fail
    refine dX (S:=(fun V=>Below (w2).heap.size (w2) V)) (by kernel_rfl) ((aW _ _).drew) (fun ah=>?_)
    refine tk 0 ah ?_
    refine tk 1 ah ?_
    refine tk 2 ah ?_
    refine tn 3 ah ?_
    refine tn 4 ah ?_
    refine tn 5 ah ?_
    refine tn 6 ah ?_
    refine tn 7 ah ?_
    refine tn 8 ah ?_
    refine tn 9 ah ?_
    refine tn 10 ah ?_
    refine tn 11 ah ?_
    refine tn 12 ah ?_
    refine tn 13 ah ?_
    refine tk 14 ah ?_
    refine tk 15 ah ?_
    refine dQ ?_
    have HF:=ak ah
    clear ah
    have Ga:=ak HF.out
    have FN:=ak (iD.out.call HF.out)
    have uP:=ak (HB2.out.trans (HF.out.mono HB2.out.size))
    have HA9:=ak (((HA2.out.below aA HF.out).more aA HF.out.size).take k)
    clear HF
    by_cases hid:x2=1
    ·have hin:(x2 != 1)=false:=by simp [hid]
     have HFI:=ak (show k=0→JI ((x0,x1),x2,x3,x4,x5,x6,(x7,x8),x9,x10,aS,aV,M)=1 from fun _=>hid)
     have Po:=ak (show ∀ y,0<k→L[k-1]? = some y→AV y ((x0,x1),x2,x3,x4,x5,x6,(x7,x8),x9,x10,aS,aV,M) from fun y h=>absurd HK0.out (by omega))
     clear hid
     go_wp2_with fail
     refine dX (S:=(fun V=>Below (w2.drew).heap.size (w2.drew) V)) (by kernel_rfl) ((aW _ _).drew) (fun ah=>?_)
     refine tk 0 ah ?_
     refine tk 1 ah ?_
     refine tk 2 ah ?_
     refine tk 3 ah ?_ (hy:=fun w aj=>by (try dsimp only at aj);have k0:=FN.out.hat aj 2 rfl;clear aj;go_simp;try with_reducible rfl)
     refine tk 4 ah ?_
     refine tk 5 ah ?_
     refine tk 6 ah ?_
     refine tk 7 ah ?_
     refine tk 8 ah ?_
     refine tk 9 ah ?_
     refine tn 10 ah ?_
     refine tn 11 ah ?_
     refine tn 12 ah ?_
     refine tn 13 ah ?_
     refine tn 14 ah ?_
     refine tn 15 ah ?_
     refine tn 16 ah ?_
     refine tn 17 ah ?_
     refine tn 18 ah ?_
     refine tn 19 ah ?_
     refine tn 20 ah ?_
     refine tn 21 ah ?_
     refine tn 22 ah ?_
     refine tn 23 ah ?_
     refine tn 24 ah ?_
     refine tn 25 ah ?_
     refine tn 26 ah ?_
     refine tn 27 ah ?_
     refine tn 28 ah ?_
     refine tn 29 ah ?_
     refine tn 30 ah ?_
     refine tk 31 ah ?_
     refine tk 32 ah ?_
     refine dQ ?_
     have HF:=ak ah
     clear ah
     have nC:=ak HF.out
     clear HF
     have kK:=ak (uP.out.trans (nC.out.mono uP.out.size))
     have qO:=ak (FN.out.call nC.out)
     have Tp:=ak ((HA9.out.below aA nC.out).more aA nC.out.size)
     clear hin
     by_cases h9:x9=0
     ·have XJ:(x9 != 0)=false:=by simp [h9]
      have HS:=ak (jq HO.out HX.out ⟨HT.out,HFI.out,Po.out,fun h=>absurd h9 h⟩)
      clear h9
      go_wp2_with fail
      refine dX (S:=(fun V=>Below (w2.drew.drew).heap.size (w2.drew.drew) V)) (by kernel_rfl) ((aW _ _).drew) (fun ah=>?_)
      refine tk 0 ah ?_
      refine tk 1 ah ?_ (hy:=fun w aj=>by (try dsimp only at aj);have k0:=qO.out.hat aj 9 rfl;clear aj;go_simp;try with_reducible rfl)
      refine tk 2 ah ?_
      refine tk 3 ah ?_
      refine tn 4 ah ?_
      refine tn 5 ah ?_
      refine tn 6 ah ?_
      refine tn 7 ah ?_
      refine tn 8 ah ?_
      refine tn 9 ah ?_
      refine tn 10 ah ?_
      refine tn 11 ah ?_
      refine tn 12 ah ?_
      refine tk 13 ah ?_
      refine dQ ?_
      have HF:=ak ah
      clear ah
      have gU:=ak (kK.out.trans (HF.out.mono kK.out.size))
      go_wp2
      go_roundw
      case rel=>exact ⟨k+1,by omega,by go_num,HS,by first | exact gU.out | exact gU.out.drew | exact fD gU.out _⟩
      case measure=>simp [intOf];omega
     ·have XJ:(x9 != 0)=true:=by simp [h9]
      have H9:=ak h9
      clear h9
      obtain ⟨b,xE⟩:∃ b,decide (vF (L.take k) ((x7,x8),x9)<0)=b:=⟨_,rfl⟩
      have mY:=ak xE
      have hkc:k≤cap:=by have h8:=H.out.1;omega
      go_wp2_with fail
      refine dX (S:=(fun V=>Below (w2.drew.drew).heap.size (w2.drew.drew) V)) (by kernel_rfl) ((aW _ _).drew) (fun ah=>?_)
      refine tk 0 ah ?_
      refine tk 1 ah ?_ (hy:=fun w aj=>by (try dsimp only at aj);have k0:=qO.out.hat aj 9 rfl;clear aj;go_simp;try with_reducible rfl)
      refine tk 2 ah ?_
      refine tk 3 ah ?_
      refine tk 4 ah ?_
      refine tk 5 ah ?_
      refine tk 6 ah ?_
      refine tk 7 ah ?_
      refine tk 8 ah ?_ (hy:=fun w aj=>by (try dsimp only at aj);have k0:=qO.out.hat aj 7 rfl;have k1:=qO.out.hat aj 8 rfl;clear aj;go_simp;try with_reducible rfl)
      refine tk 9 ah ?_
      refine tk 10 ah ?_ (hy:=fun w aj=>by (try dsimp only at aj);have k0:=qO.out.hat aj 9 rfl;clear aj;go_simp;try with_reducible rfl)
      refine dw 11 (fun K hK=>?_)
      go_simp
      go_at_call 67
      refine (E8 (hTL.out) ((Tp.out.below aA ah).more aA ah.size)).mono ?_
      rintro e w12 ⟨rfl,hb⟩
      refine hK.out _ _ (ah.trans (hb.mono ah.size)) (fun ah=>?_)
      clear hK K hb
      refine tk 12 ah ?_
      refine tk 13 ah ?_
      refine dQ ?_
      have HF:=ak ah
      clear ah
      have gU:=ak (kK.out.trans (HF.out.mono kK.out.size))
      cases b with
      | true=>
       have HN:=ak (iC HX.out fun h=>by have h2:=h.2.2.2 H9.out;have h3:=of_decide_eq_true mY.out;exact absurd h2 (by show ¬0≤vF (L.take k) ((x7,x8),x9);omega))
       go_wp2
       go_ret
       exact aB HN.out gU.out
      | false=>
       have HS:=ak (jq HO.out HX.out ⟨HT.out,HFI.out,Po.out,fun _=>by have h3:=of_decide_eq_false mY.out;show 0≤vF (L.take k) ((x7,x8),x9);omega⟩)
       go_wp2
       go_roundw
       case rel=>exact ⟨k+1,by omega,by go_num,HS,by first | exact gU.out | exact gU.out.drew | exact fD gU.out _⟩
       case measure=>simp [intOf];omega
    ·have hin:(x2 != 1)=true:=by simp [hid]
     have HN:=ak (iC HX.out fun h=>hid (h.2.1 HK0.out))
     clear hid
     go_wp2_with fail
     refine dX (S:=(fun V=>Below (w2.drew).heap.size (w2.drew) V)) (by kernel_rfl) ((aW _ _).drew) (fun ah=>?_)
     refine tk 0 ah ?_
     refine tk 1 ah ?_
     refine tk 2 ah ?_
     refine tk 3 ah ?_ (hy:=fun w aj=>by (try dsimp only at aj);have k0:=FN.out.hat aj 2 rfl;clear aj;go_simp;try with_reducible rfl)
     refine tk 4 ah ?_
     refine tk 5 ah ?_
     refine tk 6 ah ?_
     refine tn 7 ah ?_
     refine tn 8 ah ?_
     refine tn 9 ah ?_
     refine tn 10 ah ?_
     refine tn 11 ah ?_
     refine tn 12 ah ?_
     refine tn 13 ah ?_
     refine tn 14 ah ?_
     refine tn 15 ah ?_
     refine tn 16 ah ?_
     refine tn 17 ah ?_
     refine tn 18 ah ?_
     refine tn 19 ah ?_
     refine tn 20 ah ?_
     refine tn 21 ah ?_
     refine tn 22 ah ?_
     refine tn 23 ah ?_
     refine tn 24 ah ?_
     refine tn 25 ah ?_
     refine tn 26 ah ?_
     refine tn 27 ah ?_
     refine tn 28 ah ?_
     refine tn 29 ah ?_
     refine tn 30 ah ?_
     refine tn 31 ah ?_
     refine tk 32 ah ?_
     refine dQ ?_
     have HF:=ak ah
     clear ah
     have nC:=ak HF.out
     clear HF
     have kK:=ak (uP.out.trans (nC.out.mono uP.out.size))
     go_wp2
     go_ret
     exact aB HN.out kK.out
   ·have hkd:((k:Int)==0)=false:=by simp;omega
    have HK0:=ak hk0
    obtain ⟨j,hj⟩:∃ j,k=j+1:=⟨k-1,by omega⟩
    have HJ:=ak hj
    obtain ⟨⟨⟨y0,y1⟩,y2,y3,y4,y5,y6,⟨y7,y8⟩,y9,Ms,JG,RS,N⟩,hy⟩:=aM (show j<L.length by omega)
    have HY:=ak (show L[k-1]? = some ((y0,y1),y2,y3,y4,y5,y6,(y7,y8),y9,Ms,JG,RS,N) from by rw [hj,Nat.add_sub_cancel];exact hy)
    obtain ⟨g',o',us',hgo,hg',hu',hr'⟩:=HA2.out.at_ hy
    obtain ⟨rfl,rfl⟩:g'=g∧o'=o:=by cases hgo;exact ⟨rfl,rfl⟩
    obtain ⟨da,dc,rfl,k_N,b_y3⟩:=fA hr'
    have p0:w2.cell? ⟨g',o'+j*14,none⟩=some (.int .i64 y0):=by simpa [bg,Nat.add_assoc] using hu' 0 _ rfl
    have p1:w2.cell? ⟨g',o'+j*14+1,none⟩=some (.int .i64 y1):=by simpa [bg,Nat.add_assoc] using hu' 1 _ rfl
    have p2:w2.cell? ⟨g',o'+j*14+2,none⟩=some (.int .i64 y2):=by simpa [bg,Nat.add_assoc] using hu' 2 _ rfl
    have hjs:(k:Int)-1=(j:Int):=by omega
    have hj0:(0:Int)≤(j:Int):=eu _
    have hj1:(j:Int)<(L.length:Int):=by omega
    have XF:IntKind.i64.wrap (j:Int)=(j:Int):=gK _ (by omega)
    have HTY:=ak ((HO.out (k-1) _ (by omega) HY.out).1)
    have XP:=ak (show dH.rB y0 y1=true from HTY.out.1)
    have hy2:1≤y2∧y2≤12:=HTY.out.id
    have hyw:IntKind.i64.wrap (y2+1)=y2+1:=gK _ (by omega)
    have HFI:=ak (show k=0→JI ((x0,x1),x2,x3,x4,x5,x6,(x7,x8),x9,x10,aS,aV,M)=1 from fun h=>absurd h HK0.out)
    have HLB:=ak (show decide (8*y0+y1<8*x0+x1)=true↔jY (y0,y1) (x0,x1) from by
     have h1:=Gw XP.out;have h2:=Gw H1.out
     simp only [decide_eq_true_eq];unfold jY;simp only;omega)
    clear hgo hg' hu' hr' hy hj hk0 k_N
    obtain ⟨f,hf⟩:∃ f,decide (8*y0+y1<8*x0+x1)=f:=⟨_,rfl⟩
    rw [hf] at HLB
    go_wp2_with fail
    refine dX (S:=(fun V=>Below (w2).heap.size (w2) V)) (by kernel_rfl) ((aW _ _).drew) (fun ah=>?_)
    refine tk 0 ah ?_
    refine tk 1 ah ?_
    refine tk 2 ah ?_
    refine tk 3 ah ?_
    refine tk 4 ah ?_
    refine tk 5 ah ?_
    refine tk 6 ah ?_
    refine tk 7 ah ?_
    refine tk 8 ah ?_ (hy:=fun w aj=>by (try dsimp only at aj);have k0:=(aj.cell (p:=⟨g',o'+j*14,none⟩) HG2.out).trans p0;have k1:=(aj.cell (p:=⟨g',o'+j*14+1,none⟩) HG2.out).trans p1;clear aj;go_simp;try with_reducible rfl)
    refine tk 10 ah ?_
    refine tk 11 ah ?_ (hy:=fun w aj=>by (try dsimp only at aj);have k0:=iD.out.hat aj 0 rfl;have k1:=iD.out.hat aj 1 rfl;clear aj;go_simp;try with_reducible rfl)
    refine dw 9 (fun K hK=>?_)
    go_simp
    go_at_call 124
    refine (Nc XP.out _).mono ?_
    rintro e w3 ⟨rfl,hb⟩
    refine hK.out _ _ (ah.trans (hb.mono ah.size)) (fun ah=>?_)
    clear hK K hb
    refine dw 12 (fun K hK=>?_)
    go_simp
    go_at_call 124
    refine (Nc H1.out _).mono ?_
    rintro e w4 ⟨rfl,hb⟩
    refine hK.out _ _ (ah.trans (hb.mono ah.size)) (fun ah=>?_)
    clear hK K hb
    refine tk 13 ah ?_
    refine tk 14 ah ?_
    refine tk 15 ah ?_
    refine dQ ?_
    have HF:=ak ah
    clear ah
    have Ga:=ak HF.out
    have FN:=ak (iD.out.call HF.out)
    have uP:=ak (HB2.out.trans (HF.out.mono HB2.out.size))
    have HA9:=ak (((HA2.out.below aA HF.out).more aA HF.out.size).take k)
    clear HF
    have HU:=ak (fun (y:aF) (hy:L[k-1]? = some y)=>(fC (HY.out.symm.trans hy)))
    cases f with
    | true=>
     have HLT:=ak (HLB.out.1 rfl)
     by_cases hid:x2=1
     ·have hin:(x2 != 1)=false:=by simp [hid]
      have Po:=ak (show ∀ y,0<k→L[k-1]? = some y→AV y ((x0,x1),x2,x3,x4,x5,x6,(x7,x8),x9,x10,aS,aV,M) from fun y _ hy=>by rw [←HU.out y hy];exact .inr ⟨HLT.out,hid⟩)
      clear hid
      go_wp2_with fail
      refine dX (S:=(fun V=>Below (w4).heap.size (w4) V)) (by kernel_rfl) ((aW _ _).drew) (fun ah=>?_)
      refine tk 0 ah ?_
      refine tk 1 ah ?_
      refine tk 2 ah ?_
      refine tk 3 ah ?_ (hy:=fun w aj=>by (try dsimp only at aj);have k0:=FN.out.hat aj 2 rfl;clear aj;go_simp;try with_reducible rfl)
      refine tk 4 ah ?_
      refine tk 5 ah ?_
      refine tk 6 ah ?_
      refine tk 7 ah ?_
      refine tk 8 ah ?_
      refine tk 9 ah ?_
      refine tn 10 ah ?_
      refine tn 11 ah ?_
      refine tn 12 ah ?_
      refine tn 13 ah ?_
      refine tn 14 ah ?_
      refine tn 15 ah ?_
      refine tn 16 ah ?_
      refine tn 17 ah ?_
      refine tn 18 ah ?_
      refine tn 19 ah ?_
      refine tn 20 ah ?_
      refine tn 21 ah ?_
      refine tn 22 ah ?_
      refine tn 23 ah ?_
      refine tn 24 ah ?_
      refine tn 25 ah ?_
      refine tn 26 ah ?_
      refine tn 27 ah ?_
      refine tn 28 ah ?_
      refine tn 29 ah ?_
      refine tn 30 ah ?_
      refine tk 31 ah ?_
      refine tk 32 ah ?_
      refine dQ ?_
      have HF:=ak ah
      clear ah
      have nC:=ak HF.out
      clear HF
      have kK:=ak (uP.out.trans (nC.out.mono uP.out.size))
      have qO:=ak (FN.out.call nC.out)
      have Tp:=ak ((HA9.out.below aA nC.out).more aA nC.out.size)
      clear hin
      by_cases h9:x9=0
      ·have XJ:(x9 != 0)=false:=by simp [h9]
       have HS:=ak (jq HO.out HX.out ⟨HT.out,HFI.out,Po.out,fun h=>absurd h9 h⟩)
       clear h9
       go_wp2_with fail
       refine dX (S:=(fun V=>Below (w4.drew).heap.size (w4.drew) V)) (by kernel_rfl) ((aW _ _).drew) (fun ah=>?_)
       refine tk 0 ah ?_
       refine tk 1 ah ?_ (hy:=fun w aj=>by (try dsimp only at aj);have k0:=qO.out.hat aj 9 rfl;clear aj;go_simp;try with_reducible rfl)
       refine tk 2 ah ?_
       refine tk 3 ah ?_
       refine tn 4 ah ?_
       refine tn 5 ah ?_
       refine tn 6 ah ?_
       refine tn 7 ah ?_
       refine tn 8 ah ?_
       refine tn 9 ah ?_
       refine tn 10 ah ?_
       refine tn 11 ah ?_
       refine tn 12 ah ?_
       refine tk 13 ah ?_
       refine dQ ?_
       have HF:=ak ah
       clear ah
       have gU:=ak (kK.out.trans (HF.out.mono kK.out.size))
       go_wp2
       go_roundw
       case rel=>exact ⟨k+1,by omega,by go_num,HS,by first | exact gU.out | exact gU.out.drew | exact fD gU.out _⟩
       case measure=>simp [intOf];omega
      ·have XJ:(x9 != 0)=true:=by simp [h9]
       have H9:=ak h9
       clear h9
       obtain ⟨b,xE⟩:∃ b,decide (vF (L.take k) ((x7,x8),x9)<0)=b:=⟨_,rfl⟩
       have mY:=ak xE
       have hkc:k≤cap:=by have h8:=H.out.1;omega
       go_wp2_with fail
       refine dX (S:=(fun V=>Below (w4.drew).heap.size (w4.drew) V)) (by kernel_rfl) ((aW _ _).drew) (fun ah=>?_)
       refine tk 0 ah ?_
       refine tk 1 ah ?_ (hy:=fun w aj=>by (try dsimp only at aj);have k0:=qO.out.hat aj 9 rfl;clear aj;go_simp;try with_reducible rfl)
       refine tk 2 ah ?_
       refine tk 3 ah ?_
       refine tk 4 ah ?_
       refine tk 5 ah ?_
       refine tk 6 ah ?_
       refine tk 7 ah ?_
       refine tk 8 ah ?_ (hy:=fun w aj=>by (try dsimp only at aj);have k0:=qO.out.hat aj 7 rfl;have k1:=qO.out.hat aj 8 rfl;clear aj;go_simp;try with_reducible rfl)
       refine tk 9 ah ?_
       refine tk 10 ah ?_ (hy:=fun w aj=>by (try dsimp only at aj);have k0:=qO.out.hat aj 9 rfl;clear aj;go_simp;try with_reducible rfl)
       refine dw 11 (fun K hK=>?_)
       go_simp
       go_at_call 67
       refine (E8 (hTL.out) ((Tp.out.below aA ah).more aA ah.size)).mono ?_
       rintro e w12 ⟨rfl,hb⟩
       refine hK.out _ _ (ah.trans (hb.mono ah.size)) (fun ah=>?_)
       clear hK K hb
       refine tk 12 ah ?_
       refine tk 13 ah ?_
       refine dQ ?_
       have HF:=ak ah
       clear ah
       have gU:=ak (kK.out.trans (HF.out.mono kK.out.size))
       cases b with
       | true=>
        have HN:=ak (iC HX.out fun h=>by have h2:=h.2.2.2 H9.out;have h3:=of_decide_eq_true mY.out;exact absurd h2 (by show ¬0≤vF (L.take k) ((x7,x8),x9);omega))
        go_wp2
        go_ret
        exact aB HN.out gU.out
       | false=>
        have HS:=ak (jq HO.out HX.out ⟨HT.out,HFI.out,Po.out,fun _=>by have h3:=of_decide_eq_false mY.out;show 0≤vF (L.take k) ((x7,x8),x9);omega⟩)
        go_wp2
        go_roundw
        case rel=>exact ⟨k+1,by omega,by go_num,HS,by first | exact gU.out | exact gU.out.drew | exact fD gU.out _⟩
        case measure=>simp [intOf];omega
     ·have hin:(x2 != 1)=true:=by simp [hid]
      have HN:=ak (iC HX.out fun h=>by
       rcases h.2.2.1 _ (by have:=HJ.out;omega) HY.out with h2 | h2
       ·have h3:((y0,y1):ay)=(x0,x1):=h2.1
        have h4:=HLT.out
        rw [h3] at h4
        exact iH h4
       ·exact hid h2.2)
      clear hid
      go_wp2_with fail
      refine dX (S:=(fun V=>Below (w4).heap.size (w4) V)) (by kernel_rfl) ((aW _ _).drew) (fun ah=>?_)
      refine tk 0 ah ?_
      refine tk 1 ah ?_
      refine tk 2 ah ?_
      refine tk 3 ah ?_ (hy:=fun w aj=>by (try dsimp only at aj);have k0:=FN.out.hat aj 2 rfl;clear aj;go_simp;try with_reducible rfl)
      refine tk 4 ah ?_
      refine tk 5 ah ?_
      refine tk 6 ah ?_
      refine tn 7 ah ?_
      refine tn 8 ah ?_
      refine tn 9 ah ?_
      refine tn 10 ah ?_
      refine tn 11 ah ?_
      refine tn 12 ah ?_
      refine tn 13 ah ?_
      refine tn 14 ah ?_
      refine tn 15 ah ?_
      refine tn 16 ah ?_
      refine tn 17 ah ?_
      refine tn 18 ah ?_
      refine tn 19 ah ?_
      refine tn 20 ah ?_
      refine tn 21 ah ?_
      refine tn 22 ah ?_
      refine tn 23 ah ?_
      refine tn 24 ah ?_
      refine tn 25 ah ?_
      refine tn 26 ah ?_
      refine tn 27 ah ?_
      refine tn 28 ah ?_
      refine tn 29 ah ?_
      refine tn 30 ah ?_
      refine tn 31 ah ?_
      refine tk 32 ah ?_
      refine dQ ?_
      have HF:=ak ah
      clear ah
      have nC:=ak HF.out
      clear HF
      have kK:=ak (uP.out.trans (nC.out.mono uP.out.size))
      go_wp2
      go_ret
      exact aB HN.out kK.out
    | false=>
     have XT:=ak (show ¬jY (y0,y1) (x0,x1) from fun h=>by have:=HLB.out.2 h;cases this)
     obtain ⟨b,hb⟩:∃ b,decide (((y0,y1):Int×Int)=(x0,x1))=b:=⟨_,rfl⟩
     have hq:=wI y0 y1 x0 x1 b hb
     have HQ:=ak hb
     clear hb
     cases b with
     | false=>
      have HN:=ak (iC HX.out fun h=>by
       rcases h.2.2.1 _ (by have:=HJ.out;omega) HY.out with h2 | h2
       ·exact of_decide_eq_false HQ.out h2.1
       ·exact XT.out h2.1)
      go_wp2_with fail
      refine dX (S:=(fun V=>Below (w4).heap.size (w4) V)) (by kernel_rfl) ((aW _ _).drew) (fun ah=>?_)
      refine tk 0 ah ?_
      refine tk 1 ah ?_
      refine tn 2 ah ?_
      refine tn 3 ah ?_
      refine tn 4 ah ?_
      refine tk 5 ah ?_
      refine tk 6 ah ?_
      refine tk 7 ah ?_
      refine tk 8 ah ?_
      refine tk 9 ah ?_
      refine tk 10 ah ?_
      refine tk 11 ah ?_
      refine tk 12 ah ?_
      refine tk 13 ah ?_
      refine tk 14 ah ?_
      refine tk 15 ah ?_ (hy:=fun w aj=>by (try dsimp only at aj);have k0:=(aj.cell (p:=⟨g',o'+j*14,none⟩) (bV HG2.out Ga.out.size)).trans ((Ga.out.cell (p:=⟨g',o'+j*14,none⟩) HG2.out).trans p0);have k1:=(aj.cell (p:=⟨g',o'+j*14+1,none⟩) (bV HG2.out Ga.out.size)).trans ((Ga.out.cell (p:=⟨g',o'+j*14+1,none⟩) HG2.out).trans p1);clear aj;go_simp;try with_reducible rfl)
      refine tk 16 ah ?_
      refine tk 17 ah ?_ (hy:=fun w aj=>by (try dsimp only at aj);have k0:=FN.out.hat aj 0 rfl;have k1:=FN.out.hat aj 1 rfl;clear aj;go_simp;try with_reducible rfl)
      refine tk 18 ah ?_
      refine tk 19 ah ?_
      refine tn 20 ah ?_
      refine tn 21 ah ?_
      refine tn 22 ah ?_
      refine tn 23 ah ?_
      refine tn 24 ah ?_
      refine tn 25 ah ?_
      refine tn 26 ah ?_
      refine tn 27 ah ?_
      refine tn 28 ah ?_
      refine tn 29 ah ?_
      refine tk 30 ah ?_
      refine tk 31 ah ?_
      refine tk 32 ah ?_
      refine dQ ?_
      have HF:=ak ah
      clear ah
      have nC:=ak HF.out
      clear HF
      have kK:=ak (uP.out.trans (nC.out.mono uP.out.size))
      go_wp2
      go_ret
      exact aB HN.out kK.out
     | true=>
      by_cases hid:y2+1=x2
      ·have hin:(y2+1 != x2)=false:=by simp [hid]
       have Po:=ak (show ∀ y,0<k→L[k-1]? = some y→AV y ((x0,x1),x2,x3,x4,x5,x6,(x7,x8),x9,x10,aS,aV,M) from fun y _ hy=>by rw [←HU.out y hy];exact .inl ⟨of_decide_eq_true HQ.out,hid.symm⟩)
       clear hid
       go_wp2_with fail
       refine dX (S:=(fun V=>Below (w4).heap.size (w4) V)) (by kernel_rfl) ((aW _ _).drew) (fun ah=>?_)
       refine tk 0 ah ?_
       refine tk 1 ah ?_
       refine tn 2 ah ?_
       refine tn 3 ah ?_
       refine tn 4 ah ?_
       refine tk 5 ah ?_
       refine tk 6 ah ?_
       refine tk 7 ah ?_
       refine tk 8 ah ?_
       refine tk 9 ah ?_
       refine tk 10 ah ?_
       refine tk 11 ah ?_
       refine tk 12 ah ?_
       refine tk 13 ah ?_
       refine tk 14 ah ?_
       refine tk 15 ah ?_ (hy:=fun w aj=>by (try dsimp only at aj);have k0:=(aj.cell (p:=⟨g',o'+j*14,none⟩) (bV HG2.out Ga.out.size)).trans ((Ga.out.cell (p:=⟨g',o'+j*14,none⟩) HG2.out).trans p0);have k1:=(aj.cell (p:=⟨g',o'+j*14+1,none⟩) (bV HG2.out Ga.out.size)).trans ((Ga.out.cell (p:=⟨g',o'+j*14+1,none⟩) HG2.out).trans p1);clear aj;go_simp;try with_reducible rfl)
       refine tk 16 ah ?_
       refine tk 17 ah ?_ (hy:=fun w aj=>by (try dsimp only at aj);have k0:=FN.out.hat aj 0 rfl;have k1:=FN.out.hat aj 1 rfl;clear aj;go_simp;try with_reducible rfl)
       refine tk 18 ah ?_
       refine tk 19 ah ?_
       refine tk 20 ah ?_
       refine tk 21 ah ?_
       refine tk 22 ah ?_
       refine tk 23 ah ?_
       refine tk 24 ah ?_
       refine tk 25 ah ?_ (hy:=fun w aj=>by (try dsimp only at aj);have k0:=(aj.cell (p:=⟨g',o'+j*14+2,none⟩) (bV HG2.out Ga.out.size)).trans ((Ga.out.cell (p:=⟨g',o'+j*14+2,none⟩) HG2.out).trans p2);clear aj;go_simp;try with_reducible rfl)
       refine tk 26 ah ?_
       refine tk 27 ah ?_
       refine tk 28 ah ?_ (hy:=fun w aj=>by (try dsimp only at aj);have k0:=FN.out.hat aj 2 rfl;clear aj;go_simp;try with_reducible rfl)
       refine tk 29 ah ?_
       refine tk 30 ah ?_
       refine tk 31 ah ?_
       refine tk 32 ah ?_
       refine dQ ?_
       have HF:=ak ah
       clear ah
       have nC:=ak HF.out
       clear HF
       have kK:=ak (uP.out.trans (nC.out.mono uP.out.size))
       have qO:=ak (FN.out.call nC.out)
       have Tp:=ak ((HA9.out.below aA nC.out).more aA nC.out.size)
       clear hin
       by_cases h9:x9=0
       ·have XJ:(x9 != 0)=false:=by simp [h9]
        have HS:=ak (jq HO.out HX.out ⟨HT.out,HFI.out,Po.out,fun h=>absurd h9 h⟩)
        clear h9
        go_wp2_with fail
        refine dX (S:=(fun V=>Below (w4.drew).heap.size (w4.drew) V)) (by kernel_rfl) ((aW _ _).drew) (fun ah=>?_)
        refine tk 0 ah ?_
        refine tk 1 ah ?_ (hy:=fun w aj=>by (try dsimp only at aj);have k0:=qO.out.hat aj 9 rfl;clear aj;go_simp;try with_reducible rfl)
        refine tk 2 ah ?_
        refine tk 3 ah ?_
        refine tn 4 ah ?_
        refine tn 5 ah ?_
        refine tn 6 ah ?_
        refine tn 7 ah ?_
        refine tn 8 ah ?_
        refine tn 9 ah ?_
        refine tn 10 ah ?_
        refine tn 11 ah ?_
        refine tn 12 ah ?_
        refine tk 13 ah ?_
        refine dQ ?_
        have HF:=ak ah
        clear ah
        have gU:=ak (kK.out.trans (HF.out.mono kK.out.size))
        go_wp2
        go_roundw
        case rel=>exact ⟨k+1,by omega,by go_num,HS,by first | exact gU.out | exact gU.out.drew | exact fD gU.out _⟩
        case measure=>simp [intOf];omega
       ·have XJ:(x9 != 0)=true:=by simp [h9]
        have H9:=ak h9
        clear h9
        obtain ⟨b,xE⟩:∃ b,decide (vF (L.take k) ((x7,x8),x9)<0)=b:=⟨_,rfl⟩
        have mY:=ak xE
        have hkc:k≤cap:=by have h8:=H.out.1;omega
        go_wp2_with fail
        refine dX (S:=(fun V=>Below (w4.drew).heap.size (w4.drew) V)) (by kernel_rfl) ((aW _ _).drew) (fun ah=>?_)
        refine tk 0 ah ?_
        refine tk 1 ah ?_ (hy:=fun w aj=>by (try dsimp only at aj);have k0:=qO.out.hat aj 9 rfl;clear aj;go_simp;try with_reducible rfl)
        refine tk 2 ah ?_
        refine tk 3 ah ?_
        refine tk 4 ah ?_
        refine tk 5 ah ?_
        refine tk 6 ah ?_
        refine tk 7 ah ?_
        refine tk 8 ah ?_ (hy:=fun w aj=>by (try dsimp only at aj);have k0:=qO.out.hat aj 7 rfl;have k1:=qO.out.hat aj 8 rfl;clear aj;go_simp;try with_reducible rfl)
        refine tk 9 ah ?_
        refine tk 10 ah ?_ (hy:=fun w aj=>by (try dsimp only at aj);have k0:=qO.out.hat aj 9 rfl;clear aj;go_simp;try with_reducible rfl)
        refine dw 11 (fun K hK=>?_)
        go_simp
        go_at_call 67
        refine (E8 (hTL.out) ((Tp.out.below aA ah).more aA ah.size)).mono ?_
        rintro e w12 ⟨rfl,hb⟩
        refine hK.out _ _ (ah.trans (hb.mono ah.size)) (fun ah=>?_)
        clear hK K hb
        refine tk 12 ah ?_
        refine tk 13 ah ?_
        refine dQ ?_
        have HF:=ak ah
        clear ah
        have gU:=ak (kK.out.trans (HF.out.mono kK.out.size))
        cases b with
        | true=>
         have HN:=ak (iC HX.out fun h=>by have h2:=h.2.2.2 H9.out;have h3:=of_decide_eq_true mY.out;exact absurd h2 (by show ¬0≤vF (L.take k) ((x7,x8),x9);omega))
         go_wp2
         go_ret
         exact aB HN.out gU.out
        | false=>
         have HS:=ak (jq HO.out HX.out ⟨HT.out,HFI.out,Po.out,fun _=>by have h3:=of_decide_eq_false mY.out;show 0≤vF (L.take k) ((x7,x8),x9);omega⟩)
         go_wp2
         go_roundw
         case rel=>exact ⟨k+1,by omega,by go_num,HS,by first | exact gU.out | exact gU.out.drew | exact fD gU.out _⟩
         case measure=>simp [intOf];omega
      ·have hin:(y2+1 != x2)=true:=by simp [hid]
       have HN:=ak (iC HX.out fun h=>by
        rcases h.2.2.1 _ (by have:=HJ.out;omega) HY.out with h2 | h2
        ·exact hid h2.2.symm
        ·exact XT.out h2.1)
       clear hid
       go_wp2_with fail
       refine dX (S:=(fun V=>Below (w4).heap.size (w4) V)) (by kernel_rfl) ((aW _ _).drew) (fun ah=>?_)
       refine tk 0 ah ?_
       refine tk 1 ah ?_
       refine tn 2 ah ?_
       refine tn 3 ah ?_
       refine tn 4 ah ?_
       refine tk 5 ah ?_
       refine tk 6 ah ?_
       refine tk 7 ah ?_
       refine tk 8 ah ?_
       refine tk 9 ah ?_
       refine tk 10 ah ?_
       refine tk 11 ah ?_
       refine tk 12 ah ?_
       refine tk 13 ah ?_
       refine tk 14 ah ?_
       refine tk 15 ah ?_ (hy:=fun w aj=>by (try dsimp only at aj);have k0:=(aj.cell (p:=⟨g',o'+j*14,none⟩) (bV HG2.out Ga.out.size)).trans ((Ga.out.cell (p:=⟨g',o'+j*14,none⟩) HG2.out).trans p0);have k1:=(aj.cell (p:=⟨g',o'+j*14+1,none⟩) (bV HG2.out Ga.out.size)).trans ((Ga.out.cell (p:=⟨g',o'+j*14+1,none⟩) HG2.out).trans p1);clear aj;go_simp;try with_reducible rfl)
       refine tk 16 ah ?_
       refine tk 17 ah ?_ (hy:=fun w aj=>by (try dsimp only at aj);have k0:=FN.out.hat aj 0 rfl;have k1:=FN.out.hat aj 1 rfl;clear aj;go_simp;try with_reducible rfl)
       refine tk 18 ah ?_
       refine tk 19 ah ?_
       refine tk 20 ah ?_
       refine tk 21 ah ?_
       refine tk 22 ah ?_
       refine tk 23 ah ?_
       refine tk 24 ah ?_
       refine tk 25 ah ?_ (hy:=fun w aj=>by (try dsimp only at aj);have k0:=(aj.cell (p:=⟨g',o'+j*14+2,none⟩) (bV HG2.out Ga.out.size)).trans ((Ga.out.cell (p:=⟨g',o'+j*14+2,none⟩) HG2.out).trans p2);clear aj;go_simp;try with_reducible rfl)
       refine tk 26 ah ?_
       refine tk 27 ah ?_
       refine tk 28 ah ?_ (hy:=fun w aj=>by (try dsimp only at aj);have k0:=FN.out.hat aj 2 rfl;clear aj;go_simp;try with_reducible rfl)
       refine tk 29 ah ?_
       refine tk 30 ah ?_
       refine tk 31 ah ?_
       refine tk 32 ah ?_
       refine dQ ?_
       have HF:=ak ah
       clear ah
       have nC:=ak HF.out
       clear HF
       have kK:=ak (uP.out.trans (nC.out.mono uP.out.size))
       go_wp2
       go_ret
       exact aB HN.out kK.out
  ·have hdl:decide ((k:Int)<(L.length:Int))=false:=dS (by omega)
   obtain rfl:k=L.length:=by omega
   have HY:=ak (BD h96 HO.out)
   clear hB
   go_wp2
   go_ret
   exact bM HY.out HB.out
end
end aQ
end Go.Proofs.YtlhfiapfncikdaaGreatDoor
