import Derived.Test.YtlhfiapfncikdaaGreatDoorPN23
set_option linter.unusedVariables false
set_option linter.unusedSimpArgs false
set_option maxRecDepth 100000
set_option maxHeartbeats 3200000
namespace Go.Proofs.YtlhfiapfncikdaaGreatDoor
namespace aQ
section
open Go.RowKit bN bO bJ bQ eO CF
theorem qm {C:List (List ay)}{P:List bA}{Q:List aX}{hf:Int}{ca pa qa:Option Addr}{cc pc qc:Nat}{l s:Int}{W:World}(hC:aJ (Sl av) W W.heap.size C ca cc) :
 Calls Tryz.prog 165 #[.agg #[.slice ca C.length cc,.slice pa P.length pc,.slice qa Q.length qc,.int .i64 hf],.agg #[.int .i64 l,.int .i64 s]] W (Xt ((gJ C (l,s)).length:Int) W):=by
 have hcn:C.length≤9223372036854775807:=by have h1:=hC.1;have h2:=hC.2.1;unfold maxLen at h2;omega
 obtain ⟨w0,hw0⟩:∃ w,w=(W.alloc (.cells #[.slice ca C.length cc,.slice pa P.length pc,.slice qa Q.length qc,.int .i64 hf] 39)).alloc (.cells #[.int .i64 l,.int .i64 s] 49):=⟨_,rfl⟩
 have hb0:Below W.heap.size W w0:=by rw [hw0];exact ((aW _ _).alloc (bK _) _).alloc (by simp) _
 have kW:aO w0 (W.heap.size) 39 #[.slice ca C.length cc,.slice pa P.length pc,.slice qa Q.length qc,.int .i64 hf]:=by
  have h9:=aO.new W 39 #[.slice ca C.length cc,.slice pa P.length pc,.slice qa Q.length qc,.int .i64 hf]
  try simp only [World.size_alloc] at h9
  rw [hw0];exact (h9.alloc _)
 have X0:=ak kW
 have qH:aO w0 (W.heap.size+1) 49 #[.int .i64 l,.int .i64 s]:=by
  have h9:=aO.new (W.alloc (.cells #[.slice ca C.length cc,.slice pa P.length pc,.slice qa Q.length qc,.int .i64 hf] 39)) 49 #[.int .i64 l,.int .i64 s]
  try simp only [World.size_alloc] at h9
  rw [hw0];exact h9
 have X1:=ak qH
 have HC:=ak (aD (aZ au) hC hb0)
 have HB0:=ak hb0
 have hz0:=hb0.size
 clear hb0 hC kW qH
 go_enter Tryz.func165,Tryz.ntmps165
 have q0:=X0.out.at_ 0 rfl
 go_wp2_with fail
 rw [←hw0]
 clear hw0 q0
 go_loopw [5,6] (fun v i wr=>∃ k:Nat,k≤C.length∧i=.int .i64 k∧v=.int .i64 ((gX C (l,s) k).length:Nat)∧Below w0.heap.size w0 wr) (fun _ i _=>C.length-(intOf i).toNat)
 case atStart=>exact ⟨0,dV _,rfl,rfl,aW _ _⟩
 case round=>
  obtain ⟨k,hk,rfl,rfl,hB⟩:=hrel
  have HB:=ak hB
  have hsz:=hB.size
  have Z0:=ak (X0.out.call hB)
  have Z1:=ak (X1.out.call hB)
  have q0:=Z0.out.at_ 0 rfl
  obtain ⟨n,hnn⟩:∃ n,(gX C (l,s) k).length=n:=⟨_,rfl⟩
  have hle:=rz C (l,s) k
  have Ac:=ak hnn
  rw [hnn] at hle
  rw [hnn]
  clear hnn
  by_cases hlt:k<C.length
  ·have hdl:decide ((k:Int)<(C.length:Int))=true:=eD (by omega)
   have hnw:IntKind.i64.wrap ((n:Int)+1)=(n:Int)+1:=gK _ (by omega)
   obtain ⟨x,hx⟩:=aM hlt
   have HX:=ak hx
   have hCr:=aD (aZ au) HC.out hB
   obtain ⟨g,o,us,rfl,hg,hu,hr⟩:=hCr.at_ hx
   obtain ⟨a1,c1,rfl,uH⟩:=hr
   have e0:wr.cell? ⟨g,o+k,none⟩=some (.slice a1 x.length c1):=by simpa [jP] using hu 0 _ rfl
   have hi0:(0:Int)≤(k:Int):=eu _
   have hi1:(k:Int)<(C.length:Int):=by omega
   have HG:=ak hg
   have HK:=ak uH
   clear hB hx hu uH hCr hg
   go_wp2_with fail
   refine dX (S:=(fun V=>Below (wr).heap.size (wr) V)) (by kernel_rfl) ((aW _ _).drew) (fun ah=>?_)
   refine tk 0 ah ?_
   refine tk 1 ah ?_ (hy:=fun w aj=>by (try dsimp only at aj);have k0:=Z0.out.hat aj 0 rfl;clear aj;go_simp;try with_reducible rfl)
   refine tk 2 ah ?_
   refine tk 3 ah ?_
   refine tk 4 ah ?_ (hy:=fun w aj=>by (try dsimp only at aj);have k0:=(aj.cell (p:=⟨g,o+k,none⟩) HG.out).trans e0;clear aj;go_simp;try with_reducible rfl)
   refine tk 5 ah ?_ (hy:=fun w aj=>by (try dsimp only at aj);have k0:=Z1.out.hat aj 0 rfl;have k1:=Z1.out.hat aj 1 rfl;clear aj;go_simp;try with_reducible rfl)
   refine dw 6 (fun K hK=>?_)
   go_simp
   go_at_call 103
   refine (dW (aD au HK.out ah)).mono ?_
   intro e w4 h
   obtain ⟨q,rfl,hq2,hb⟩:=bq h
   have HQq:=ak hq2
   clear h hq2
   refine hK.out _ _ (ah.trans (hb.mono ah.size)) (fun ah=>?_)
   clear hK K hb
   refine dQ ?_
   have HF:=ak ah
   clear ah
   have HB3:=ak (HB.out.trans (HF.out.mono hsz))
   have hz3:=HB3.out.size
   clear HF
   rcases sD q HQq.out with ⟨hq,hm⟩ | ⟨hq,hm⟩
   ·have HN:=ak (show (gX C (l,s) (k+1)).length=n+1 from by rw [yV HX.out hm,List.length_append,Ac.out];rfl)
    clear hm
    subst hq
    clear q0 e0
    go_wp2
    go_roundw
    case rel=>exact ⟨k+1,by omega,by go_num,by rw [HN.out];go_num,HB3.out⟩
    case measure=>simp [intOf];omega
   ·have HN:=ak (show (gX C (l,s) (k+1)).length=n from by rw [BK HX.out hm,Ac.out])
    clear hm
    subst hq
    clear q0 e0
    go_wp2
    go_roundw
    case rel=>exact ⟨k+1,by omega,by go_num,by rw [HN.out],HB3.out⟩
    case measure=>simp [intOf];omega
  ·have hdl:decide ((k:Int)<(C.length:Int))=false:=dS (by omega)
   obtain rfl:k=C.length:=by omega
   clear hB
   go_wp2
   go_ret
   exact ⟨by rw [←Ac.out];rfl,HB0.out.trans (HB.out.mono HB0.out.size)⟩
theorem BZ {x0 x1 x2:Int}{x3:ByteArray}{x4 x5 x6 x7 x8 x9 x10 aS aV:Int}{M:List Int}{ma:Option Addr}{mc:Nat}{W:World}(h0:0≤aV∧aV≤1000000)(h1:1≤x5∧x5≤20):Calls Tryz.prog 166 #[.agg #[.int .i64 x0,.int .i64 x1,.int .i64 x2,.string x3,.int .i64 x4,.int .i64 x5,.int .i64 x6,.int .i64 x7,.int .i64 x8,.int .i64 x9,.int .i64 x10,.int .i64 aS,.int .i64 aV,.slice ma M.length mc]] W (Xt (aV+1+x5) W):=by
 have HB0:=ak (show Below W.heap.size W (W.alloc (.cells #[.int .i64 x0,.int .i64 x1,.int .i64 x2,.string x3,.int .i64 x4,.int .i64 x5,.int .i64 x6,.int .i64 x7,.int .i64 x8,.int .i64 x9,.int .i64 x10,.int .i64 aS,.int .i64 aV,.slice ma M.length mc] 72)) from (aW _ _).alloc (bK _) _)
 have e1:IntKind.i64.wrap (aV+1)=aV+1:=gK _ (by omega)
 have e2:IntKind.i64.wrap (aV+1+x5)=aV+1+x5:=gK _ (by omega)
 go_enter Tryz.func166,Tryz.ntmps166
 go_wp2
 go_ret
 exact ⟨by first | rfl | (simp [e1,e2];done) | (rw [e1,e2]),HB0.out⟩
theorem BH {now:Int}{x:aF}(h:kU x=2):pK now x↔jW x≤now∧now<endT x:=⟨fun hh=>hh.1 h,fun hh=>⟨fun _=>hh,fun hn=>absurd h hn⟩⟩
theorem yR {now:Int}{x:aF}(h:kU x≠2)(hl:(jF x).length=0):pK now x:=⟨fun hh=>absurd hh h,fun _ hl2=>by omega⟩
theorem yQ {now:Int}{x:aF}(h:kU x≠2)(hl:(jF x).length≠0):pK now x↔now<jW x∧jW x≤now+40:=⟨fun hh=>hh.2 h (by omega),fun hh=>⟨fun h2=>absurd h2 h,fun _ _=>hh⟩⟩
theorem oW {x:aF}(h:bZ x){k:Nat}(hk:k<(jF x).length):mP (jF x):=by
 obtain ⟨⟨x0,x1⟩,x2,x3,x4,x5,x6,⟨x7,x8⟩,x9,x10,aS,aV,M⟩:=x
 have hH:Has aS M:=by
  by_cases hh:Has aS M
  ·exact hh
  ·have h2:Ew aV M:=(iX h) hh
   have h3:=h2.2
   have hk2:k<M.length:=hk
   omega
 exact ((kZ h).1 hH).2.2
theorem BF {x:aF}(h:bZ x):1≤Dt x∧Dt x≤20:=by
 obtain ⟨⟨x0,x1⟩,x2,x3,x4,x5,x6,⟨x7,x8⟩,x9,x10,aS,aV,M⟩:=x
 exact (dG _ _ _).1 h.2.2.2.2.1
theorem yO {x:aF}(h:bZ x):0≤jW x∧jW x≤1000000:=by
 obtain ⟨⟨x0,x1⟩,x2,x3,x4,x5,x6,⟨x7,x8⟩,x9,x10,aS,aV,M⟩:=x
 by_cases hh:Has aS M
 ·exact (dG _ _ _).1 ((kZ h).1 hh).1
 ·have h2:Ew aV M:=(iX h) hh
  have h3:=h2.1
  show 0≤aV∧aV≤1000000
  omega
theorem Ce {C:List (List ay)}{a:ay}{m:Nat}{x:List ay}(hx:C[m]? = some x):(m:Int)∈gJ C a↔a∈x:=by
 rw [yY]
 constructor
 ·rintro ⟨k,y,hy,he,ha⟩
  have:k=m:=by omega
  subst this
  rw [hx] at hy;cases hy;exact ha
 ·exact fun h=>⟨m,x,hx,rfl,h⟩
theorem JC {C:List (List ay)}{a:ay}{m:Nat}(h:C.length≤m):(m:Int) ∉ gJ C a:=by
 rw [yY]
 rintro ⟨k,y,hy,he,ha⟩
 have:=(List.getElem?_eq_some_iff.1 hy).1
 omega
theorem IY {C:List (List ay)}{P:List bA}{Q:List aX}{hf:Int}{ca pa qa:Option Addr}{cc pc qc:Nat}{N:List aP}{T:List aF}{U:List bI}{now:Int}{na ta ua:Option Addr}{nc tc uc:Nat}{x0 x1 x2:Int}{x3:ByteArray}{x4 x5 x6 x7 x8 x9 x10 aS aV:Int}{M:List Int}{ma:Option Addr}{mc:Nat}{W:World}(hC:aJ (Sl av) W W.heap.size C ca cc)(hM:aJ I W W.heap.size M ma mc)(hR:bZ ((x0,x1),x2,x3,x4,x5,x6,(x7,x8),x9,x10,aS,aV,M))(hcl:C.length≤6)(hnl:N.length=C.length)(Kl:0≤now∧now≤999900) :
 Calls Tryz.prog 101 #[.agg #[.slice ca C.length cc,.slice pa P.length pc,.slice qa Q.length qc,.int .i64 hf,.slice na N.length nc,.slice ta T.length tc,.slice ua U.length uc,.int .i64 now],.agg #[.int .i64 x0,.int .i64 x1,.int .i64 x2,.string x3,.int .i64 x4,.int .i64 x5,.int .i64 x6,.int .i64 x7,.int .i64 x8,.int .i64 x9,.int .i64 x10,.int .i64 aS,.int .i64 aV,.slice ma M.length mc]] W (jf (vL C now ((x0,x1),x2,x3,x4,x5,x6,(x7,x8),x9,x10,aS,aV,M)) W):=by
 have HR:=ak hR
 have hst:=yO hR
 have hlg:=BF hR
 simp only [jW,Dt] at hst hlg
 clear hR
 have hMn:M.length≤9223372036854775807:=by have h1:=hM.1;have h2:=hM.2.1;unfold maxLen at h2;omega
 obtain ⟨K,hK⟩:∃ K,(gJ C (x0,x1)).length=K:=⟨_,rfl⟩
 have HK:=ak hK
 clear hK
 obtain ⟨b1,h1⟩:∃ b,decide ((K:Int)<x4)=b:=⟨_,rfl⟩
 obtain ⟨b2,h2⟩:∃ b,decide (now<x10)=b:=⟨_,rfl⟩
 have XT:=ak hnl
 have hNn:N.length≤6:=by omega
 clear hnl
 obtain ⟨w0,hw0⟩:∃ w,w=(W.alloc (.cells #[.slice ca C.length cc,.slice pa P.length pc,.slice qa Q.length qc,.int .i64 hf,.slice na N.length nc,.slice ta T.length tc,.slice ua U.length uc,.int .i64 now] 44)).alloc (.cells #[.int .i64 x0,.int .i64 x1,.int .i64 x2,.string x3,.int .i64 x4,.int .i64 x5,.int .i64 x6,.int .i64 x7,.int .i64 x8,.int .i64 x9,.int .i64 x10,.int .i64 aS,.int .i64 aV,.slice ma M.length mc] 72):=⟨_,rfl⟩
 have hb0:Below W.heap.size W w0:=by rw [hw0];exact ((aW _ _).alloc (bK _) _).alloc (by simp) _
 have kW:aO w0 (W.heap.size) 44 #[.slice ca C.length cc,.slice pa P.length pc,.slice qa Q.length qc,.int .i64 hf,.slice na N.length nc,.slice ta T.length tc,.slice ua U.length uc,.int .i64 now]:=by
  have h9:=aO.new W 44 #[.slice ca C.length cc,.slice pa P.length pc,.slice qa Q.length qc,.int .i64 hf,.slice na N.length nc,.slice ta T.length tc,.slice ua U.length uc,.int .i64 now]
  try simp only [World.size_alloc] at h9
  rw [hw0];exact (h9.alloc _)
 have X0:=ak kW
 have qH:aO w0 (W.heap.size+1) 72 #[.int .i64 x0,.int .i64 x1,.int .i64 x2,.string x3,.int .i64 x4,.int .i64 x5,.int .i64 x6,.int .i64 x7,.int .i64 x8,.int .i64 x9,.int .i64 x10,.int .i64 aS,.int .i64 aV,.slice ma M.length mc]:=by
  have h9:=aO.new (W.alloc (.cells #[.slice ca C.length cc,.slice pa P.length pc,.slice qa Q.length qc,.int .i64 hf,.slice na N.length nc,.slice ta T.length tc,.slice ua U.length uc,.int .i64 now] 44)) 72 #[.int .i64 x0,.int .i64 x1,.int .i64 x2,.string x3,.int .i64 x4,.int .i64 x5,.int .i64 x6,.int .i64 x7,.int .i64 x8,.int .i64 x9,.int .i64 x10,.int .i64 aS,.int .i64 aV,.slice ma M.length mc]
  try simp only [World.size_alloc] at h9
  rw [hw0];exact h9
 have X1:=ak qH
 have HC:=ak (aD (aZ au) hC hb0)
 have HM:=ak (aD cK hM hb0)
 have HB0:=ak hb0
 have hz0:=hb0.size
 clear hb0 hC hM kW qH
 go_enter Tryz.func101,Tryz.ntmps101
 go_upto_region 1 with fail
 rw [←hw0]
 clear hw0
 cases b1 with
 | true=>
  refine dX (S:=(fun V=>Below (w0).heap.size (w0) V)) (by kernel_rfl) ((aW _ _).drew) (fun ah=>?_)
  refine tk 0 ah ?_
  refine tk 1 ah ?_ (hy:=fun w aj=>by (try dsimp only at aj);have k0:=X0.out.hat aj 0 rfl;have k1:=X0.out.hat aj 1 rfl;have k2:=X0.out.hat aj 2 rfl;have k3:=X0.out.hat aj 3 rfl;clear aj;go_simp;try with_reducible rfl)
  refine tk 2 ah ?_
  refine tk 3 ah ?_ (hy:=fun w aj=>by (try dsimp only at aj);have k0:=X1.out.hat aj 0 rfl;have k1:=X1.out.hat aj 1 rfl;clear aj;go_simp;try with_reducible rfl)
  refine tk 5 ah ?_
  refine tk 6 ah ?_ (hy:=fun w aj=>by (try dsimp only at aj);have k0:=X1.out.hat aj 4 rfl;clear aj;go_simp;try with_reducible rfl)
  refine dw 4 (fun K hK=>?_)
  go_simp
  go_at_call 165
  have Aj:=qm (P:=P) (Q:=Q) (hf:=hf) (pa:=pa) (qa:=qa) (pc:=pc) (qc:=qc) (l:=x0) (s:=x1) (aD (aZ au) HC.out ah)
  rw [HK.out] at Aj
  refine Aj.mono ?_
  intro e w2 h
  obtain ⟨rfl,hb⟩:=iB h
  clear h Aj
  refine hK.out _ _ (ah.trans (hb.mono ah.size)) (fun ah=>?_)
  clear hK K hb
  refine tk 7 ah ?_
  refine tk 8 ah ?_
  refine tn 9 ah ?_
  refine tn 10 ah ?_
  refine tn 11 ah ?_
  refine tn 12 ah ?_
  refine tn 13 ah ?_
  refine tk 14 ah ?_
  refine dQ ?_
  have HF:=ak ah
  clear ah
  have HV:=ak (show ¬vL C now ((x0,x1),x2,x3,x4,x5,x6,(x7,x8),x9,x10,aS,aV,M) from fun h=>by have h3:x4≤(((gJ C (x0,x1)).length:Nat):Int):=h.1;rw [HK.out] at h3;have h4:=of_decide_eq_true h1;omega)
  go_wp2
  go_ret
  exact aB HV.out (HB0.out.trans (HF.out.mono hz0))
 | false=>
  have J6:=ak (show x4≤(K:Int) from by have:=of_decide_eq_false h1;omega)
  cases b2 with
  | true=>
   refine dX (S:=(fun V=>Below (w0).heap.size (w0) V)) (by kernel_rfl) ((aW _ _).drew) (fun ah=>?_)
   refine tk 0 ah ?_
   refine tk 1 ah ?_ (hy:=fun w aj=>by (try dsimp only at aj);have k0:=X0.out.hat aj 0 rfl;have k1:=X0.out.hat aj 1 rfl;have k2:=X0.out.hat aj 2 rfl;have k3:=X0.out.hat aj 3 rfl;clear aj;go_simp;try with_reducible rfl)
   refine tk 2 ah ?_
   refine tk 3 ah ?_ (hy:=fun w aj=>by (try dsimp only at aj);have k0:=X1.out.hat aj 0 rfl;have k1:=X1.out.hat aj 1 rfl;clear aj;go_simp;try with_reducible rfl)
   refine tk 5 ah ?_
   refine tk 6 ah ?_ (hy:=fun w aj=>by (try dsimp only at aj);have k0:=X1.out.hat aj 4 rfl;clear aj;go_simp;try with_reducible rfl)
   refine dw 4 (fun K hK=>?_)
   go_simp
   go_at_call 165
   have Aj:=qm (P:=P) (Q:=Q) (hf:=hf) (pa:=pa) (qa:=qa) (pc:=pc) (qc:=qc) (l:=x0) (s:=x1) (aD (aZ au) HC.out ah)
   rw [HK.out] at Aj
   refine Aj.mono ?_
   intro e w2 h
   obtain ⟨rfl,hb⟩:=iB h
   clear h Aj
   refine hK.out _ _ (ah.trans (hb.mono ah.size)) (fun ah=>?_)
   clear hK K hb
   refine tk 7 ah ?_
   refine tk 8 ah ?_
   refine tk 9 ah ?_
   refine tk 10 ah ?_ (hy:=fun w aj=>by (try dsimp only at aj);have k0:=X1.out.hat aj 10 rfl;clear aj;go_simp;try with_reducible rfl)
   refine tk 11 ah ?_
   refine tk 12 ah ?_ (hy:=fun w aj=>by (try dsimp only at aj);have k0:=X0.out.hat aj 7 rfl;clear aj;go_simp;try with_reducible rfl)
   refine tk 13 ah ?_
   refine tk 14 ah ?_
   refine dQ ?_
   have HF:=ak ah
   clear ah
   have HV:=ak (show ¬vL C now ((x0,x1),x2,x3,x4,x5,x6,(x7,x8),x9,x10,aS,aV,M) from fun h=>by have h3:x10≤now:=h.2.1;have h4:=of_decide_eq_true h2;omega)
   go_wp2
   go_ret
   exact aB HV.out (HB0.out.trans (HF.out.mono hz0))
  | false=>
   have HK2:=ak (show x10≤now from by have:=of_decide_eq_false h2;omega)
   refine dX (S:=(fun V=>Below (w0).heap.size (w0) V)) (by kernel_rfl) ((aW _ _).drew) (fun ah=>?_)
   refine tk 0 ah ?_
   refine tk 1 ah ?_ (hy:=fun w aj=>by (try dsimp only at aj);have k0:=X0.out.hat aj 0 rfl;have k1:=X0.out.hat aj 1 rfl;have k2:=X0.out.hat aj 2 rfl;have k3:=X0.out.hat aj 3 rfl;clear aj;go_simp;try with_reducible rfl)
   refine tk 2 ah ?_
   refine tk 3 ah ?_ (hy:=fun w aj=>by (try dsimp only at aj);have k0:=X1.out.hat aj 0 rfl;have k1:=X1.out.hat aj 1 rfl;clear aj;go_simp;try with_reducible rfl)
   refine tk 5 ah ?_
   refine tk 6 ah ?_ (hy:=fun w aj=>by (try dsimp only at aj);have k0:=X1.out.hat aj 4 rfl;clear aj;go_simp;try with_reducible rfl)
   refine dw 4 (fun K hK=>?_)
   go_simp
   go_at_call 165
   have Aj:=qm (P:=P) (Q:=Q) (hf:=hf) (pa:=pa) (qa:=qa) (pc:=pc) (qc:=qc) (l:=x0) (s:=x1) (aD (aZ au) HC.out ah)
   rw [HK.out] at Aj
   refine Aj.mono ?_
   intro e w2 h
   obtain ⟨rfl,hb⟩:=iB h
   clear h Aj
   refine hK.out _ _ (ah.trans (hb.mono ah.size)) (fun ah=>?_)
   clear hK K hb
   refine tk 7 ah ?_
   refine tk 8 ah ?_
   refine tk 9 ah ?_
   refine tk 10 ah ?_ (hy:=fun w aj=>by (try dsimp only at aj);have k0:=X1.out.hat aj 10 rfl;clear aj;go_simp;try with_reducible rfl)
   refine tk 11 ah ?_
   refine tk 12 ah ?_ (hy:=fun w aj=>by (try dsimp only at aj);have k0:=X0.out.hat aj 7 rfl;clear aj;go_simp;try with_reducible rfl)
   refine tk 13 ah ?_
   refine tk 14 ah ?_
   refine dQ ?_
   have HF:=ak ah
   clear ah
   have Z0:=ak (X0.out.call HF.out)
   have Z1:=ak (X1.out.call HF.out)
   have HC1:=ak (aD (aZ au) HC.out HF.out)
   have Cz:=ak (aD cK HM.out HF.out)
   have HB1:=ak (HB0.out.trans (HF.out.mono hz0))
   have hz1:=HB1.out.size
   clear HF h1 h2 X0 X1 HC HM
   go_wp2
   go_loopw [5] (fun i wr=>∃ k:Nat,k≤M.length∧i=.int .i64 k∧Hid (∀ (j:Nat) n,j<k→M[j]? = some n→n∈gJ C (x0,x1))∧Below w2.heap.size w2 wr) (fun i _=>M.length-(intOf i).toNat)
   case atStart=>exact ⟨0,dV _,rfl,ak fun j n h=>absurd h (gZ _),aW _ _⟩
   case round=>
    obtain ⟨k,hk,rfl,HA,hB⟩:=hrel
    have HB:=ak hB
    have hsz:=hB.size
    have V0:=ak (Z0.out.call hB)
    have V1:=ak (Z1.out.call hB)
    have uJ:=ak (HB1.out.trans (hB.mono hz1))
    have v13:=V1.out.at_ 13 rfl
    by_cases hlt:k<M.length
    ·have hdl:decide ((k:Int)<(M.length:Int))=true:=eD (by omega)
     obtain ⟨n,hx⟩:=aM hlt
     have hrg:=vk (oW HR.out hlt) hx
     obtain ⟨m,rfl⟩:∃ m:Nat,n=(m:Int):=⟨n.toNat,by omega⟩
     have HX:=ak hx
     obtain ⟨g,o,us,rfl,hg,hu,hr⟩:=(aD cK Cz.out hB).at_ hx
     obtain rfl:us = [_]:=hr
     have e0:wr.cell? ⟨g,o+k,none⟩=some (.int .i64 (m:Int)):=by simpa [show I.size=1 from rfl] using hu 0 _ rfl
     have Pt:=ak e0
     have HG:=ak hg
     have hi0:(0:Int)≤(k:Int):=eu _
     have hi1:(k:Int)<(M.length:Int):=by omega
     have hm0:(0:Int)≤(m:Int):=eu _
     by_cases hmn:m<N.length
     rotate_left
     ·have hge:decide ((N.length:Int)≤(m:Int))=true:=eD (by omega)
      have hge':decide (N.length≤m)=true:=eD (by omega)
      have HNM:=ak (show C.length≤m by have:=XT.out;omega)
      clear hB hu hx hg e0 hmn
      go_upto_region 6 with fail
      refine dX (S:=(fun V=>Below (wr).heap.size (wr) V)) (by kernel_rfl) ((aW _ _).drew) (fun ah=>?_)
      refine tk 0 ah ?_
      refine tk 1 ah ?_ (hy:=fun w aj=>by (try dsimp only at aj);have k0:=V1.out.hat aj 13 rfl;clear aj;go_simp;try with_reducible rfl)
      refine tk 2 ah ?_
      refine tk 3 ah ?_
      refine tk 4 ah ?_ (hy:=fun w aj=>by (try dsimp only at aj);have k0:=(aj.cell (p:=⟨g,o+k,none⟩) (bV HG.out (bK _))).trans Pt.out;clear aj;go_simp;try with_reducible rfl)
      refine tk 5 ah ?_
      refine tk 6 ah ?_ (hy:=fun w aj=>by (try dsimp only at aj);have k0:=V0.out.hat aj 4 rfl;clear aj;go_simp;try with_reducible rfl)
      refine tk 7 ah ?_
      refine tk 8 ah ?_
      refine tk 9 ah ?_
      refine tn 10 ah ?_
      refine tn 11 ah ?_
      refine tn 12 ah ?_
      refine tn 13 ah ?_
      refine tn 14 ah ?_
      refine tn 15 ah ?_
      refine tn 16 ah ?_
      refine tn 17 ah ?_
      refine tn 18 ah ?_
      refine tn 19 ah ?_
      refine tn 20 ah ?_
      refine tn 21 ah ?_
      refine tn 22 ah ?_
      refine tn 23 ah ?_
      refine tk 24 ah ?_
      refine dQ ?_
      have HF:=ak ah
      clear ah
      have Gb:=ak (uJ.out.trans (HF.out.mono (eF hz1 hsz)))
      clear HF
      have HV:=ak (show ¬vL C now ((x0,x1),x2,x3,x4,x5,x6,(x7,x8),x9,x10,aS,aV,M) from fun h=>JC HNM.out (h.2.2.1 _ (List.mem_of_getElem? HX.out)))
      go_wp2
      go_ret
      exact aB HV.out Gb.out
     ·have hge:decide ((N.length:Int)≤(m:Int))=false:=dS (by omega)
      have hge':decide (N.length≤m)=false:=dS (by omega)
      have hmc:m<C.length:=by have:=XT.out;omega
      have hmc1:(m:Int)<(C.length:Int):=by omega
      obtain ⟨x,hxc⟩:=aM hmc
      have HXC:=ak hxc
      obtain ⟨gc,oc,us2,rfl,hgc,huc,hrc⟩:=(aD (aZ au) HC1.out hB).at_ hxc
      obtain ⟨a1,c1,rfl,uH⟩:=hrc
      have ec:wr.cell? ⟨gc,oc+m,none⟩=some (.slice a1 x.length c1):=by simpa [jP] using huc 0 _ rfl
      have HEC:=ak ec
      have HGC:=ak hgc
      have HKX:=ak uH
      clear hB hu hx hg e0 hmn hxc hgc huc uH ec
      go_upto_region 6 with fail
      refine dX (S:=(fun V=>Below (wr).heap.size (wr) V)) (by kernel_rfl) ((aW _ _).drew) (fun ah=>?_)
      refine tk 0 ah ?_
      refine tk 1 ah ?_ (hy:=fun w aj=>by (try dsimp only at aj);have k0:=V1.out.hat aj 13 rfl;clear aj;go_simp;try with_reducible rfl)
      refine tk 2 ah ?_
      refine tk 3 ah ?_
      refine tk 4 ah ?_ (hy:=fun w aj=>by (try dsimp only at aj);have k0:=(aj.cell (p:=⟨g,o+k,none⟩) (bV HG.out (bK _))).trans Pt.out;clear aj;go_simp;try with_reducible rfl)
      refine tk 5 ah ?_
      refine tk 6 ah ?_ (hy:=fun w aj=>by (try dsimp only at aj);have k0:=V0.out.hat aj 4 rfl;clear aj;go_simp;try with_reducible rfl)
      refine tk 7 ah ?_
      refine tk 8 ah ?_
      refine tk 9 ah ?_
      refine tk 10 ah ?_
      refine tk 11 ah ?_
      refine tk 12 ah ?_ (hy:=fun w aj=>by (try dsimp only at aj);have k0:=V0.out.hat aj 0 rfl;clear aj;go_simp;try with_reducible rfl)
      refine tk 13 ah ?_
      refine tk 14 ah ?_ (hy:=fun w aj=>by (try dsimp only at aj);have k0:=V1.out.hat aj 13 rfl;clear aj;go_simp;try with_reducible rfl)
      refine tk 15 ah ?_
      refine tk 16 ah ?_
      refine tk 17 ah ?_ (hy:=fun w aj=>by (try dsimp only at aj);have k0:=(aj.cell (p:=⟨g,o+k,none⟩) (bV HG.out (bK _))).trans Pt.out;clear aj;go_simp;try with_reducible rfl)
      refine tk 18 ah ?_
      refine tk 19 ah ?_ (hy:=fun w aj=>by (try dsimp only at aj);have k0:=(aj.cell (p:=⟨gc,oc+m,none⟩) HGC.out).trans HEC.out;clear aj;go_simp;try with_reducible rfl)
      refine tk 20 ah ?_
      refine tk 21 ah ?_ (hy:=fun w aj=>by (try dsimp only at aj);have k0:=V1.out.hat aj 0 rfl;have k1:=V1.out.hat aj 1 rfl;clear aj;go_simp;try with_reducible rfl)
      refine dw 22 (fun K hK=>?_)
      go_simp
      go_at_call 103
      refine (dW (aD au HKX.out ah)).mono ?_
      intro e w4 h
      obtain ⟨q,rfl,hq2,hb⟩:=bq h
      have HQq:=ak hq2
      clear h hq2
      refine hK.out _ _ (ah.trans (hb.mono ah.size)) (fun ah=>?_)
      clear hK K hb
      refine tk 23 ah ?_
      refine tk 24 ah ?_
      refine dQ ?_
      have HF:=ak ah
      clear ah
      have HB3:=ak (HB.out.trans (HF.out.mono hsz))
      have Gb:=ak (uJ.out.trans (HF.out.mono (eF hz1 hsz)))
      clear HF
      rcases sD q HQq.out with ⟨hq,hm⟩ | ⟨hq,hm⟩
      ·have HA2:=ak (show ∀ (j:Nat) n,j<k+1→M[j]? = some n→n∈gJ C (x0,x1) from fun j n hj hn=>by
        by_cases e:j=k
        ·subst e
         rw [HX.out] at hn;cases hn
         exact (Ce HXC.out).2 hm
        ·exact HA.out j n (by omega) hn)
       clear hm
       subst hq
       clear v13
       go_wp2
       go_roundw
       case rel=>exact ⟨k+1,by omega,by go_num,HA2,HB3.out⟩
       case measure=>simp [intOf];omega
      ·have HMM:=ak hm
       clear hm
       subst hq
       have HV:=ak (show ¬vL C now ((x0,x1),x2,x3,x4,x5,x6,(x7,x8),x9,x10,aS,aV,M) from fun h=>HMM.out ((Ce HXC.out).1 (h.2.2.1 _ (List.mem_of_getElem? HX.out))))
       go_wp2
       go_ret
       exact aB HV.out Gb.out
    ·have hdl:decide ((k:Int)<(M.length:Int))=false:=dS (by omega)
     obtain rfl:k=M.length:=by omega
     have HALL:=ak (show ∀ n∈M,n∈gJ C (x0,x1) from fun n hn=>by
      obtain ⟨j,hj,rfl⟩:=List.mem_iff_getElem.1 hn
      exact HA.out j _ hj (List.getElem?_eq_getElem hj))
     have UJ:=ak (show pK now ((x0,x1),x2,x3,x4,x5,x6,(x7,x8),x9,x10,aS,aV,M)→vL C now ((x0,x1),x2,x3,x4,x5,x6,(x7,x8),x9,x10,aS,aV,M) from fun h=>⟨by show x4≤(((gJ C (x0,x1)).length:Nat):Int);rw [HK.out];exact J6.out,HK2.out,HALL.out,h⟩)
     have v7:=V0.out.at_ 7 rfl
     have v11:=V1.out.at_ 11 rfl
     have v12:=V1.out.at_ 12 rfl
     have hw40:IntKind.i64.wrap (now+40)=now+40:=gK _ (by omega)
     clear hB HA
     by_cases hs2:aS=2
     ·have hs2':(aS==2)=true:=beq_iff_eq.2 hs2
      have EI:=ak (BH (now:=now) (x:=((x0,x1),x2,x3,x4,x5,x6,(x7,x8),x9,x10,aS,aV,M)) hs2)
      obtain ⟨b3,h3⟩:∃ b,decide (aV≤now)=b:=⟨_,rfl⟩
      obtain ⟨b4,h4⟩:∃ b,decide (now<aV+1+x5)=b:=⟨_,rfl⟩
      clear hs2
      go_upto_region 9 with fail
      clear v7 v11 v12 v13
      cases b3 with
      | false=>
       refine dX (S:=(fun V=>Below (wr).heap.size (wr) V)) (by kernel_rfl) ((aW _ _).drew) (fun ah=>?_)
       refine tk 0 ah ?_
       refine tk 1 ah ?_ (hy:=fun w aj=>by (try dsimp only at aj);have k0:=V1.out.hat aj 12 rfl;clear aj;go_simp;try with_reducible rfl)
       refine tk 2 ah ?_
       refine tk 3 ah ?_ (hy:=fun w aj=>by (try dsimp only at aj);have k0:=V0.out.hat aj 7 rfl;clear aj;go_simp;try with_reducible rfl)
       refine tk 4 ah ?_
       refine tk 5 ah ?_
       refine tn 6 ah ?_
       refine tn 7 ah ?_
       refine tn 8 ah ?_
       refine tn 9 ah ?_
       refine tn 10 ah ?_
       refine tk 11 ah ?_
       refine tk 12 ah ?_
       refine dQ ?_
       have HF:=ak ah
       clear ah
       have Gb:=ak (uJ.out.trans (HF.out.mono (eF hz1 hsz)))
       clear HF
       have HV:=ak (show ¬vL C now ((x0,x1),x2,x3,x4,x5,x6,(x7,x8),x9,x10,aS,aV,M) from fun h=>by have h5:=(EI.out.1 h.2.2.2).1;have h6:=of_decide_eq_false h3;simp only [jW] at h5;omega)
       go_wp2
       go_ret
       exact aB HV.out Gb.out
      | true=>
       cases b4 with
       | false=>
        refine dX (S:=(fun V=>Below (wr).heap.size (wr) V)) (by kernel_rfl) ((aW _ _).drew) (fun ah=>?_)
        refine tk 0 ah ?_
        refine tk 1 ah ?_ (hy:=fun w aj=>by (try dsimp only at aj);have k0:=V1.out.hat aj 12 rfl;clear aj;go_simp;try with_reducible rfl)
        refine tk 2 ah ?_
        refine tk 3 ah ?_ (hy:=fun w aj=>by (try dsimp only at aj);have k0:=V0.out.hat aj 7 rfl;clear aj;go_simp;try with_reducible rfl)
        refine tk 4 ah ?_
        refine tk 5 ah ?_
        refine tk 6 ah ?_
        refine tk 7 ah ?_ (hy:=fun w aj=>by (try dsimp only at aj);have k0:=V0.out.hat aj 7 rfl;clear aj;go_simp;try with_reducible rfl)
        refine tk 8 ah ?_ (hy:=fun w aj=>by (try dsimp only at aj);have k0:=V1.out.hat aj 0 rfl;have k1:=V1.out.hat aj 1 rfl;have k2:=V1.out.hat aj 2 rfl;have k3:=V1.out.hat aj 3 rfl;have k4:=V1.out.hat aj 4 rfl;have k5:=V1.out.hat aj 5 rfl;have k6:=V1.out.hat aj 6 rfl;have k7:=V1.out.hat aj 7 rfl;have k8:=V1.out.hat aj 8 rfl;have k9:=V1.out.hat aj 9 rfl;have k10:=V1.out.hat aj 10 rfl;have k11:=V1.out.hat aj 11 rfl;have k12:=V1.out.hat aj 12 rfl;have k13:=V1.out.hat aj 13 rfl;clear aj;go_simp;try with_reducible rfl)
        refine dw 9 (fun K hK=>?_)
        go_simp
        go_at_call 166
        refine (BZ hst hlg).mono ?_
        intro e w5 h
        obtain ⟨rfl,hb⟩:=iB h
        clear h
        refine hK.out _ _ (ah.trans (hb.mono ah.size)) (fun ah=>?_)
        clear hK K hb
        refine tk 10 ah ?_
        refine tk 11 ah ?_
        refine tk 12 ah ?_
        refine dQ ?_
        have HF:=ak ah
        clear ah
        have Gb:=ak (uJ.out.trans (HF.out.mono (eF hz1 hsz)))
        clear HF
        have HV:=ak (show ¬vL C now ((x0,x1),x2,x3,x4,x5,x6,(x7,x8),x9,x10,aS,aV,M) from fun h=>by have h5:=(EI.out.1 h.2.2.2).2;have h6:=of_decide_eq_false h4;simp only [endT,jW,Dt] at h5;omega)
        go_wp2
        go_ret
        exact aB HV.out Gb.out
       | true=>
        refine dX (S:=(fun V=>Below (wr).heap.size (wr) V)) (by kernel_rfl) ((aW _ _).drew) (fun ah=>?_)
        refine tk 0 ah ?_
        refine tk 1 ah ?_ (hy:=fun w aj=>by (try dsimp only at aj);have k0:=V1.out.hat aj 12 rfl;clear aj;go_simp;try with_reducible rfl)
        refine tk 2 ah ?_
        refine tk 3 ah ?_ (hy:=fun w aj=>by (try dsimp only at aj);have k0:=V0.out.hat aj 7 rfl;clear aj;go_simp;try with_reducible rfl)
        refine tk 4 ah ?_
        refine tk 5 ah ?_
        refine tk 6 ah ?_
        refine tk 7 ah ?_ (hy:=fun w aj=>by (try dsimp only at aj);have k0:=V0.out.hat aj 7 rfl;clear aj;go_simp;try with_reducible rfl)
        refine tk 8 ah ?_ (hy:=fun w aj=>by (try dsimp only at aj);have k0:=V1.out.hat aj 0 rfl;have k1:=V1.out.hat aj 1 rfl;have k2:=V1.out.hat aj 2 rfl;have k3:=V1.out.hat aj 3 rfl;have k4:=V1.out.hat aj 4 rfl;have k5:=V1.out.hat aj 5 rfl;have k6:=V1.out.hat aj 6 rfl;have k7:=V1.out.hat aj 7 rfl;have k8:=V1.out.hat aj 8 rfl;have k9:=V1.out.hat aj 9 rfl;have k10:=V1.out.hat aj 10 rfl;have k11:=V1.out.hat aj 11 rfl;have k12:=V1.out.hat aj 12 rfl;have k13:=V1.out.hat aj 13 rfl;clear aj;go_simp;try with_reducible rfl)
        refine dw 9 (fun K hK=>?_)
        go_simp
        go_at_call 166
        refine (BZ hst hlg).mono ?_
        intro e w5 h
        obtain ⟨rfl,hb⟩:=iB h
        clear h
        refine hK.out _ _ (ah.trans (hb.mono ah.size)) (fun ah=>?_)
        clear hK K hb
        refine tk 10 ah ?_
        refine tk 11 ah ?_
        refine tk 12 ah ?_
        refine dQ ?_
        have HF:=ak ah
        clear ah
        have Gb:=ak (uJ.out.trans (HF.out.mono (eF hz1 hsz)))
        clear HF
        have HV:=ak (show vL C now ((x0,x1),x2,x3,x4,x5,x6,(x7,x8),x9,x10,aS,aV,M) from UJ.out (EI.out.2 ⟨of_decide_eq_true h3,of_decide_eq_true h4⟩))
        go_wp2
        go_ret
        exact bM HV.out Gb.out
     ·have hs2':(aS==2)=false:=beq_eq_false_iff_ne.2 hs2
      by_cases hl0:M.length=0
      ·have hl0':((M.length:Int)==0)=true:=beq_iff_eq.2 (by omega)
       have HV:=ak (show vL C now ((x0,x1),x2,x3,x4,x5,x6,(x7,x8),x9,x10,aS,aV,M) from UJ.out (yR hs2 hl0))
       clear hs2 hl0
       go_wp2
       go_ret
       exact bM HV.out uJ.out
      ·have hl0':((M.length:Int)==0)=false:=beq_eq_false_iff_ne.2 (by omega)
       have HW:=ak (yQ (now:=now) (x:=((x0,x1),x2,x3,x4,x5,x6,(x7,x8),x9,x10,aS,aV,M)) hs2 hl0)
       obtain ⟨b3,h3⟩:∃ b,decide (now<aV)=b:=⟨_,rfl⟩
       obtain ⟨b4,h4⟩:∃ b,decide (aV≤now+40)=b:=⟨_,rfl⟩
       clear hs2 hl0
       cases b3 with
       | false=>
        have HV:=ak (show ¬vL C now ((x0,x1),x2,x3,x4,x5,x6,(x7,x8),x9,x10,aS,aV,M) from fun h=>by have h5:=(HW.out.1 h.2.2.2).1;have h6:=of_decide_eq_false h3;simp only [jW] at h5;omega)
        go_wp2
        go_ret
        exact aB HV.out uJ.out
       | true=>
        have HV:=ak (show b4=true↔vL C now ((x0,x1),x2,x3,x4,x5,x6,(x7,x8),x9,x10,aS,aV,M) from by
         rw [←h4,decide_eq_true_eq]
         exact ⟨fun h=>UJ.out (HW.out.2 ⟨of_decide_eq_true h3,h⟩),fun h=>(HW.out.1 h.2.2.2).2⟩)
        go_wp2
        go_ret
        exact ⟨b4,rfl,HV.out,uJ.out⟩
end
end aQ
end Go.Proofs.YtlhfiapfncikdaaGreatDoor
