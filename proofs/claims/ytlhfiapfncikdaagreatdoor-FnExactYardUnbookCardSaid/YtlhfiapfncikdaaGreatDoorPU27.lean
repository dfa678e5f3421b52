import Derived.Test.YtlhfiapfncikdaaGreatDoorPU23
set_option linter.unusedVariables false
set_option linter.unusedSimpArgs false
set_option maxRecDepth 100000
set_option maxHeartbeats 3200000
namespace Go.Proofs.YtlhfiapfncikdaaGreatDoor.aP
section
open Go.RowKit bN bP bJ bM fT Cx
theorem qj {C:List (List av)}{P:List bq}{Q:List aV}{hf:Int}{ca pa qa:Option Addr}{cc pc qc:Nat}{l s:Int}{W:World}(hC:aH (Sl au) W W.heap.size C ca cc) :
 Calls Tryz.prog 165 #[.agg #[.slice ca C.length cc,.slice pa P.length pc,.slice qa Q.length qc,.int .i64 hf],.agg #[.int .i64 l,.int .i64 s]] W (Xd ((gI C (l,s)).length:Int) W):=by
 have hcn:C.length≤9223372036854775807:=by have h1:=hC.1;have h2:=hC.2.1;unfold maxLen at h2;omega
 obtain ⟨w0,hw0⟩:∃ w,w=(W.alloc (.cells #[.slice ca C.length cc,.slice pa P.length pc,.slice qa Q.length qc,.int .i64 hf] 39)).alloc (.cells #[.int .i64 l,.int .i64 s] 49):=⟨_,rfl⟩
 have hb0:Below W.heap.size W w0:=by rw [hw0];exact ((aU _ _).alloc (bK _) _).alloc (by simp) _
 have kX:aN w0 (W.heap.size) 39 #[.slice ca C.length cc,.slice pa P.length pc,.slice qa Q.length qc,.int .i64 hf]:=by
  have h9:=aN.new W 39 #[.slice ca C.length cc,.slice pa P.length pc,.slice qa Q.length qc,.int .i64 hf]
  try simp only [World.size_alloc] at h9
  rw [hw0];exact (h9.alloc _)
 have X0:=aj kX
 have qE:aN w0 (W.heap.size+1) 49 #[.int .i64 l,.int .i64 s]:=by
  have h9:=aN.new (W.alloc (.cells #[.slice ca C.length cc,.slice pa P.length pc,.slice qa Q.length qc,.int .i64 hf] 39)) 49 #[.int .i64 l,.int .i64 s]
  try simp only [World.size_alloc] at h9
  rw [hw0];exact h9
 have X1:=aj qE
 have HC:=aj (aC (aY ak) hC hb0)
 have HB0:=aj hb0
 have hz0:=hb0.size
 clear hb0 hC kX qE
 go_enter Tryz.func165,Tryz.ntmps165
 have q0:=X0.out.at_ 0 rfl
 go_wp2_with fail
 rw [←hw0]
 clear hw0 q0
 go_loopw [5,6] (fun v i wr=>∃ k:Nat,k≤C.length∧i=.int .i64 k∧v=.int .i64 ((gZ C (l,s) k).length:Nat)∧Below w0.heap.size w0 wr) (fun _ i _=>C.length-(intOf i).toNat)
 case atStart=>exact ⟨0,dX _,rfl,rfl,aU _ _⟩
 case round=>
  obtain ⟨k,hk,rfl,rfl,hB⟩:=hrel
  have HB:=aj hB
  have hsz:=hB.size
  have Z0:=aj (X0.out.call hB)
  have Z1:=aj (X1.out.call hB)
  have q0:=Z0.out.at_ 0 rfl
  obtain ⟨n,hnn⟩:∃ n,(gZ C (l,s) k).length=n:=⟨_,rfl⟩
  have hle:=qV C (l,s) k
  have zU:=aj hnn
  rw [hnn] at hle
  rw [hnn]
  clear hnn
  by_cases hlt:k<C.length
  ·have hdl:decide ((k:Int)<(C.length:Int))=true:=eO (by omega)
   have hnw:IntKind.i64.wrap ((n:Int)+1)=(n:Int)+1:=gJ _ (by omega)
   obtain ⟨x,hx⟩:=aL hlt
   have HX:=aj hx
   have hCr:=aC (aY ak) HC.out hB
   obtain ⟨g,o,us,rfl,hg,hu,hr⟩:=hCr.at_ hx
   obtain ⟨a1,c1,rfl,um⟩:=hr
   have e0:wr.cell? ⟨g,o+k,none⟩=some (.slice a1 x.length c1):=by simpa [jQ] using hu 0 _ rfl
   have hi0:(0:Int)≤(k:Int):=eu _
   have hi1:(k:Int)<(C.length:Int):=by omega
   have HG:=aj hg
   have HK:=aj um
   clear hB hx hu um hCr hg
   go_wp2_with fail
   refine dW (S:=(fun V=>Below (wr).heap.size (wr) V)) (by kernel_rfl) ((aU _ _).drew) (fun ah=>?_)
   refine tk 0 ah ?_
   refine tk 1 ah ?_ (hy:=fun w hSw=>by (try dsimp only at hSw);have k0:=Z0.out.hat hSw 0 rfl;clear hSw;go_simp;try with_reducible rfl)
   refine tk 2 ah ?_
   refine tk 3 ah ?_
   refine tk 4 ah ?_ (hy:=fun w hSw=>by (try dsimp only at hSw);have k0:=(hSw.cell (p:=⟨g,o+k,none⟩) HG.out).trans e0;clear hSw;go_simp;try with_reducible rfl)
   refine tk 5 ah ?_ (hy:=fun w hSw=>by (try dsimp only at hSw);have k0:=Z1.out.hat hSw 0 rfl;have k1:=Z1.out.hat hSw 1 rfl;clear hSw;go_simp;try with_reducible rfl)
   refine cZ 6 (fun K hK=>?_)
   go_simp
   go_at_call 103
   refine (dV (aC ak HK.out ah)).mono ?_
   intro e w4 h
   obtain ⟨q,rfl,hq2,hb⟩:=bA h
   have HQq:=aj hq2
   clear h hq2
   refine hK.out _ _ (ah.trans (hb.mono ah.size)) (fun ah=>?_)
   clear hK K hb
   refine dQ ?_
   have HF:=aj ah
   clear ah
   have HB3:=aj (HB.out.trans (HF.out.mono hsz))
   have hz3:=HB3.out.size
   clear HF
   rcases rV q HQq.out with ⟨hq,hm⟩ | ⟨hq,hm⟩
   ·have HN:=aj (show (gZ C (l,s) (k+1)).length=n+1 from by rw [yJ HX.out hm,List.length_append,zU.out];rfl)
    clear hm
    subst hq
    clear q0 e0
    go_wp2
    go_roundw
    case rel=>exact ⟨k+1,by omega,by go_num,by rw [HN.out];go_num,HB3.out⟩
    case measure=>simp [intOf];omega
   ·have HN:=aj (show (gZ C (l,s) (k+1)).length=n from by rw [BG HX.out hm,zU.out])
    clear hm
    subst hq
    clear q0 e0
    go_wp2
    go_roundw
    case rel=>exact ⟨k+1,by omega,by go_num,by rw [HN.out],HB3.out⟩
    case measure=>simp [intOf];omega
  ·have hdl:decide ((k:Int)<(C.length:Int))=false:=dU (by omega)
   obtain rfl:k=C.length:=by omega
   clear hB
   go_wp2
   go_ret
   exact ⟨by rw [←zU.out];rfl,HB0.out.trans (HB.out.mono HB0.out.size)⟩
theorem BR {x0 x1 x2:Int}{x3:ByteArray}{x4 x5 x6 x7 x8 x9 x10 aR aW:Int}{M:List Int}{ma:Option Addr}{mc:Nat}{W:World}(h0:0≤aW∧aW≤1000000)(h1:1≤x5∧x5≤20):Calls Tryz.prog 166 #[.agg #[.int .i64 x0,.int .i64 x1,.int .i64 x2,.string x3,.int .i64 x4,.int .i64 x5,.int .i64 x6,.int .i64 x7,.int .i64 x8,.int .i64 x9,.int .i64 x10,.int .i64 aR,.int .i64 aW,.slice ma M.length mc]] W (Xd (aW+1+x5) W):=by
 have HB0:=aj (show Below W.heap.size W (W.alloc (.cells #[.int .i64 x0,.int .i64 x1,.int .i64 x2,.string x3,.int .i64 x4,.int .i64 x5,.int .i64 x6,.int .i64 x7,.int .i64 x8,.int .i64 x9,.int .i64 x10,.int .i64 aR,.int .i64 aW,.slice ma M.length mc] 72)) from (aU _ _).alloc (bK _) _)
 have e1:IntKind.i64.wrap (aW+1)=aW+1:=gJ _ (by omega)
 have e2:IntKind.i64.wrap (aW+1+x5)=aW+1+x5:=gJ _ (by omega)
 go_enter Tryz.func166,Tryz.ntmps166
 go_wp2
 go_ret
 exact ⟨by first | rfl | (simp [e1,e2];done) | (rw [e1,e2]),HB0.out⟩
theorem Bz {now:Int}{x:aG}(h:pG x=2):pI now x↔jY x≤now∧now<endT x:=⟨fun hh=>hh.1 h,fun hh=>⟨fun _=>hh,fun hn=>absurd h hn⟩⟩
theorem yF {now:Int}{x:aG}(h:pG x≠2)(hl:(kV x).length=0):pI now x:=⟨fun hh=>absurd hh h,fun _ hl2=>by omega⟩
theorem yE {now:Int}{x:aG}(h:pG x≠2)(hl:(kV x).length≠0):pI now x↔now<jY x∧jY x≤now+40:=⟨fun hh=>hh.2 h (by omega),fun hh=>⟨fun h2=>absurd h2 h,fun _ _=>hh⟩⟩
theorem oO {x:aG}(h:cB x){k:Nat}(hk:k<(kV x).length):mI (kV x):=by
 obtain ⟨⟨x0,x1⟩,x2,x3,x4,x5,x6,⟨x7,x8⟩,x9,x10,aR,aW,M⟩:=x
 have hH:Has aR M:=by
  by_cases hh:Has aR M
  ·exact hh
  ·have h2:En aW M:=(iV h) hh
   have h3:=h2.2
   have hk2:k<M.length:=hk
   omega
 exact ((kT h).1 hH).2.2
theorem Bt {x:aG}(h:cB x):1≤Dl x∧Dl x≤20:=by
 obtain ⟨⟨x0,x1⟩,x2,x3,x4,x5,x6,⟨x7,x8⟩,x9,x10,aR,aW,M⟩:=x
 exact (dG _ _ _).1 h.2.2.2.2.1
theorem yC {x:aG}(h:cB x):0≤jY x∧jY x≤1000000:=by
 obtain ⟨⟨x0,x1⟩,x2,x3,x4,x5,x6,⟨x7,x8⟩,x9,x10,aR,aW,M⟩:=x
 by_cases hh:Has aR M
 ·exact (dG _ _ _).1 ((kT h).1 hh).1
 ·have h2:En aW M:=(iV h) hh
  have h3:=h2.1
  show 0≤aW∧aW≤1000000
  omega
theorem BZ {C:List (List av)}{a:av}{m:Nat}{x:List av}(hx:C[m]? = some x):(m:Int)∈gI C a↔a∈x:=by
 rw [yL]
 constructor
 ·rintro ⟨k,y,hy,he,ha⟩
  have:k=m:=by omega
  subst this
  rw [hx] at hy;cases hy;exact ha
 ·exact fun h=>⟨m,x,hx,rfl,h⟩
theorem Jo {C:List (List av)}{a:av}{m:Nat}(h:C.length≤m):(m:Int) ∉ gI C a:=by
 rw [yL]
 rintro ⟨k,y,hy,he,ha⟩
 have:=(List.getElem?_eq_some_iff.1 hy).1
 omega
theorem IB {C:List (List av)}{P:List bq}{Q:List aV}{hf:Int}{ca pa qa:Option Addr}{cc pc qc:Nat}{N:List aO}{T:List aG}{U:List bH}{now:Int}{na ta ua:Option Addr}{nc tc uc:Nat}{x0 x1 x2:Int}{x3:ByteArray}{x4 x5 x6 x7 x8 x9 x10 aR aW:Int}{M:List Int}{ma:Option Addr}{mc:Nat}{W:World}(hC:aH (Sl au) W W.heap.size C ca cc)(hM:aH I W W.heap.size M ma mc)(hR:cB ((x0,x1),x2,x3,x4,x5,x6,(x7,x8),x9,x10,aR,aW,M))(hcl:C.length≤6)(hnl:N.length=C.length)(J5:0≤now∧now≤999900) :
 Calls Tryz.prog 101 #[.agg #[.slice ca C.length cc,.slice pa P.length pc,.slice qa Q.length qc,.int .i64 hf,.slice na N.length nc,.slice ta T.length tc,.slice ua U.length uc,.int .i64 now],.agg #[.int .i64 x0,.int .i64 x1,.int .i64 x2,.string x3,.int .i64 x4,.int .i64 x5,.int .i64 x6,.int .i64 x7,.int .i64 x8,.int .i64 x9,.int .i64 x10,.int .i64 aR,.int .i64 aW,.slice ma M.length mc]] W (jh (vo C now ((x0,x1),x2,x3,x4,x5,x6,(x7,x8),x9,x10,aR,aW,M)) W):=by
 have HR:=aj hR
 have hst:=yC hR
 have hlg:=Bt hR
 simp only [jY,Dl] at hst hlg
 clear hR
 have hMn:M.length≤9223372036854775807:=by have h1:=hM.1;have h2:=hM.2.1;unfold maxLen at h2;omega
 obtain ⟨K,hK⟩:∃ K,(gI C (x0,x1)).length=K:=⟨_,rfl⟩
 have HK:=aj hK
 clear hK
 obtain ⟨b1,h1⟩:∃ b,decide ((K:Int)<x4)=b:=⟨_,rfl⟩
 obtain ⟨b2,h2⟩:∃ b,decide (now<x10)=b:=⟨_,rfl⟩
 have Xt:=aj hnl
 have hNn:N.length≤6:=by omega
 clear hnl
 obtain ⟨w0,hw0⟩:∃ w,w=(W.alloc (.cells #[.slice ca C.length cc,.slice pa P.length pc,.slice qa Q.length qc,.int .i64 hf,.slice na N.length nc,.slice ta T.length tc,.slice ua U.length uc,.int .i64 now] 44)).alloc (.cells #[.int .i64 x0,.int .i64 x1,.int .i64 x2,.string x3,.int .i64 x4,.int .i64 x5,.int .i64 x6,.int .i64 x7,.int .i64 x8,.int .i64 x9,.int .i64 x10,.int .i64 aR,.int .i64 aW,.slice ma M.length mc] 72):=⟨_,rfl⟩
 have hb0:Below W.heap.size W w0:=by rw [hw0];exact ((aU _ _).alloc (bK _) _).alloc (by simp) _
 have kX:aN w0 (W.heap.size) 44 #[.slice ca C.length cc,.slice pa P.length pc,.slice qa Q.length qc,.int .i64 hf,.slice na N.length nc,.slice ta T.length tc,.slice ua U.length uc,.int .i64 now]:=by
  have h9:=aN.new W 44 #[.slice ca C.length cc,.slice pa P.length pc,.slice qa Q.length qc,.int .i64 hf,.slice na N.length nc,.slice ta T.length tc,.slice ua U.length uc,.int .i64 now]
  try simp only [World.size_alloc] at h9
  rw [hw0];exact (h9.alloc _)
 have X0:=aj kX
 have qE:aN w0 (W.heap.size+1) 72 #[.int .i64 x0,.int .i64 x1,.int .i64 x2,.string x3,.int .i64 x4,.int .i64 x5,.int .i64 x6,.int .i64 x7,.int .i64 x8,.int .i64 x9,.int .i64 x10,.int .i64 aR,.int .i64 aW,.slice ma M.length mc]:=by
  have h9:=aN.new (W.alloc (.cells #[.slice ca C.length cc,.slice pa P.length pc,.slice qa Q.length qc,.int .i64 hf,.slice na N.length nc,.slice ta T.length tc,.slice ua U.length uc,.int .i64 now] 44)) 72 #[.int .i64 x0,.int .i64 x1,.int .i64 x2,.string x3,.int .i64 x4,.int .i64 x5,.int .i64 x6,.int .i64 x7,.int .i64 x8,.int .i64 x9,.int .i64 x10,.int .i64 aR,.int .i64 aW,.slice ma M.length mc]
  try simp only [World.size_alloc] at h9
  rw [hw0];exact h9
 have X1:=aj qE
 have HC:=aj (aC (aY ak) hC hb0)
 have HM:=aj (aC cO hM hb0)
 have HB0:=aj hb0
 have hz0:=hb0.size
 clear hb0 hC hM kX qE
 go_enter Tryz.func101,Tryz.ntmps101
 go_upto_region 1 with fail
 rw [←hw0]
 clear hw0
 cases b1 with
 | true=>
  refine dW (S:=(fun V=>Below (w0).heap.size (w0) V)) (by kernel_rfl) ((aU _ _).drew) (fun ah=>?_)
  refine tk 0 ah ?_
  refine tk 1 ah ?_ (hy:=fun w hSw=>by (try dsimp only at hSw);have k0:=X0.out.hat hSw 0 rfl;have k1:=X0.out.hat hSw 1 rfl;have k2:=X0.out.hat hSw 2 rfl;have k3:=X0.out.hat hSw 3 rfl;clear hSw;go_simp;try with_reducible rfl)
  refine tk 2 ah ?_
  refine tk 3 ah ?_ (hy:=fun w hSw=>by (try dsimp only at hSw);have k0:=X1.out.hat hSw 0 rfl;have k1:=X1.out.hat hSw 1 rfl;clear hSw;go_simp;try with_reducible rfl)
  refine tk 5 ah ?_
  refine tk 6 ah ?_ (hy:=fun w hSw=>by (try dsimp only at hSw);have k0:=X1.out.hat hSw 4 rfl;clear hSw;go_simp;try with_reducible rfl)
  refine cZ 4 (fun K hK=>?_)
  go_simp
  go_at_call 165
  have Aa:=qj (P:=P) (Q:=Q) (hf:=hf) (pa:=pa) (qa:=qa) (pc:=pc) (qc:=qc) (l:=x0) (s:=x1) (aC (aY ak) HC.out ah)
  rw [HK.out] at Aa
  refine Aa.mono ?_
  intro e w2 h
  obtain ⟨rfl,hb⟩:=iB h
  clear h Aa
  refine hK.out _ _ (ah.trans (hb.mono ah.size)) (fun ah=>?_)
  clear hK K hb
  refine tk 7 ah ?_
  refine tk 8 ah ?_
  refine tn 9 ah ?_
  refine tn 10 ah ?_
  refine tn 11 ah ?_
  refine tn 12 ah ?_
  refine tn 13 ah ?_
  refine tk 14 ah ?_
  refine dQ ?_
  have HF:=aj ah
  clear ah
  have HV:=aj (show ¬vo C now ((x0,x1),x2,x3,x4,x5,x6,(x7,x8),x9,x10,aR,aW,M) from fun h=>by have h3:x4≤(((gI C (x0,x1)).length:Nat):Int):=h.1;rw [HK.out] at h3;have h4:=of_decide_eq_true h1;omega)
  go_wp2
  go_ret
  exact aA HV.out (HB0.out.trans (HF.out.mono hz0))
 | false=>
  have JN:=aj (show x4≤(K:Int) from by have:=of_decide_eq_false h1;omega)
  cases b2 with
  | true=>
   refine dW (S:=(fun V=>Below (w0).heap.size (w0) V)) (by kernel_rfl) ((aU _ _).drew) (fun ah=>?_)
   refine tk 0 ah ?_
   refine tk 1 ah ?_ (hy:=fun w hSw=>by (try dsimp only at hSw);have k0:=X0.out.hat hSw 0 rfl;have k1:=X0.out.hat hSw 1 rfl;have k2:=X0.out.hat hSw 2 rfl;have k3:=X0.out.hat hSw 3 rfl;clear hSw;go_simp;try with_reducible rfl)
   refine tk 2 ah ?_
   refine tk 3 ah ?_ (hy:=fun w hSw=>by (try dsimp only at hSw);have k0:=X1.out.hat hSw 0 rfl;have k1:=X1.out.hat hSw 1 rfl;clear hSw;go_simp;try with_reducible rfl)
   refine tk 5 ah ?_
   refine tk 6 ah ?_ (hy:=fun w hSw=>by (try dsimp only at hSw);have k0:=X1.out.hat hSw 4 rfl;clear hSw;go_simp;try with_reducible rfl)
   refine cZ 4 (fun K hK=>?_)
   go_simp
   go_at_call 165
   have Aa:=qj (P:=P) (Q:=Q) (hf:=hf) (pa:=pa) (qa:=qa) (pc:=pc) (qc:=qc) (l:=x0) (s:=x1) (aC (aY ak) HC.out ah)
   rw [HK.out] at Aa
   refine Aa.mono ?_
   intro e w2 h
   obtain ⟨rfl,hb⟩:=iB h
   clear h Aa
   refine hK.out _ _ (ah.trans (hb.mono ah.size)) (fun ah=>?_)
   clear hK K hb
   refine tk 7 ah ?_
   refine tk 8 ah ?_
   refine tk 9 ah ?_
   refine tk 10 ah ?_ (hy:=fun w hSw=>by (try dsimp only at hSw);have k0:=X1.out.hat hSw 10 rfl;clear hSw;go_simp;try with_reducible rfl)
   refine tk 11 ah ?_
   refine tk 12 ah ?_ (hy:=fun w hSw=>by (try dsimp only at hSw);have k0:=X0.out.hat hSw 7 rfl;clear hSw;go_simp;try with_reducible rfl)
   refine tk 13 ah ?_
   refine tk 14 ah ?_
   refine dQ ?_
   have HF:=aj ah
   clear ah
   have HV:=aj (show ¬vo C now ((x0,x1),x2,x3,x4,x5,x6,(x7,x8),x9,x10,aR,aW,M) from fun h=>by have h3:x10≤now:=h.2.1;have h4:=of_decide_eq_true h2;omega)
   go_wp2
   go_ret
   exact aA HV.out (HB0.out.trans (HF.out.mono hz0))
  | false=>
   have HK2:=aj (show x10≤now from by have:=of_decide_eq_false h2;omega)
   refine dW (S:=(fun V=>Below (w0).heap.size (w0) V)) (by kernel_rfl) ((aU _ _).drew) (fun ah=>?_)
   refine tk 0 ah ?_
   refine tk 1 ah ?_ (hy:=fun w hSw=>by (try dsimp only at hSw);have k0:=X0.out.hat hSw 0 rfl;have k1:=X0.out.hat hSw 1 rfl;have k2:=X0.out.hat hSw 2 rfl;have k3:=X0.out.hat hSw 3 rfl;clear hSw;go_simp;try with_reducible rfl)
   refine tk 2 ah ?_
   refine tk 3 ah ?_ (hy:=fun w hSw=>by (try dsimp only at hSw);have k0:=X1.out.hat hSw 0 rfl;have k1:=X1.out.hat hSw 1 rfl;clear hSw;go_simp;try with_reducible rfl)
   refine tk 5 ah ?_
   refine tk 6 ah ?_ (hy:=fun w hSw=>by (try dsimp only at hSw);have k0:=X1.out.hat hSw 4 rfl;clear hSw;go_simp;try with_reducible rfl)
   refine cZ 4 (fun K hK=>?_)
   go_simp
   go_at_call 165
   have Aa:=qj (P:=P) (Q:=Q) (hf:=hf) (pa:=pa) (qa:=qa) (pc:=pc) (qc:=qc) (l:=x0) (s:=x1) (aC (aY ak) HC.out ah)
   rw [HK.out] at Aa
   refine Aa.mono ?_
   intro e w2 h
   obtain ⟨rfl,hb⟩:=iB h
   clear h Aa
   refine hK.out _ _ (ah.trans (hb.mono ah.size)) (fun ah=>?_)
   clear hK K hb
   refine tk 7 ah ?_
   refine tk 8 ah ?_
   refine tk 9 ah ?_
   refine tk 10 ah ?_ (hy:=fun w hSw=>by (try dsimp only at hSw);have k0:=X1.out.hat hSw 10 rfl;clear hSw;go_simp;try with_reducible rfl)
   refine tk 11 ah ?_
   refine tk 12 ah ?_ (hy:=fun w hSw=>by (try dsimp only at hSw);have k0:=X0.out.hat hSw 7 rfl;clear hSw;go_simp;try with_reducible rfl)
   refine tk 13 ah ?_
   refine tk 14 ah ?_
   refine dQ ?_
   have HF:=aj ah
   clear ah
   have Z0:=aj (X0.out.call HF.out)
   have Z1:=aj (X1.out.call HF.out)
   have HC1:=aj (aC (aY ak) HC.out HF.out)
   have FD:=aj (aC cO HM.out HF.out)
   have HB1:=aj (HB0.out.trans (HF.out.mono hz0))
   have hz1:=HB1.out.size
   clear HF h1 h2 X0 X1 HC HM
   go_wp2
   go_loopw [5] (fun i wr=>∃ k:Nat,k≤M.length∧i=.int .i64 k∧Hid (∀ (j:Nat) n,j<k→M[j]? = some n→n∈gI C (x0,x1))∧Below w2.heap.size w2 wr) (fun i _=>M.length-(intOf i).toNat)
   case atStart=>exact ⟨0,dX _,rfl,aj fun j n h=>absurd h (gT _),aU _ _⟩
   case round=>
    obtain ⟨k,hk,rfl,HA,hB⟩:=hrel
    have HB:=aj hB
    have hsz:=hB.size
    have V0:=aj (Z0.out.call hB)
    have V1:=aj (Z1.out.call hB)
    have uq:=aj (HB1.out.trans (hB.mono hz1))
    have v13:=V1.out.at_ 13 rfl
    by_cases hlt:k<M.length
    ·have hdl:decide ((k:Int)<(M.length:Int))=true:=eO (by omega)
     obtain ⟨n,hx⟩:=aL hlt
     have hrg:=uP (oO HR.out hlt) hx
     obtain ⟨m,rfl⟩:∃ m:Nat,n=(m:Int):=⟨n.toNat,by omega⟩
     have HX:=aj hx
     obtain ⟨g,o,us,rfl,hg,hu,hr⟩:=(aC cO FD.out hB).at_ hx
     obtain rfl:us = [_]:=hr
     have e0:wr.cell? ⟨g,o+k,none⟩=some (.int .i64 (m:Int)):=by simpa [show I.size=1 from rfl] using hu 0 _ rfl
     have OV:=aj e0
     have HG:=aj hg
     have hi0:(0:Int)≤(k:Int):=eu _
     have hi1:(k:Int)<(M.length:Int):=by omega
     have hm0:(0:Int)≤(m:Int):=eu _
     by_cases hmn:m<N.length
     rotate_left
     ·have hge:decide ((N.length:Int)≤(m:Int))=true:=eO (by omega)
      have hge':decide (N.length≤m)=true:=eO (by omega)
      have HNM:=aj (show C.length≤m by have:=Xt.out;omega)
      clear hB hu hx hg e0 hmn
      go_upto_region 6 with fail
      refine dW (S:=(fun V=>Below (wr).heap.size (wr) V)) (by kernel_rfl) ((aU _ _).drew) (fun ah=>?_)
      refine tk 0 ah ?_
      refine tk 1 ah ?_ (hy:=fun w hSw=>by (try dsimp only at hSw);have k0:=V1.out.hat hSw 13 rfl;clear hSw;go_simp;try with_reducible rfl)
      refine tk 2 ah ?_
      refine tk 3 ah ?_
      refine tk 4 ah ?_ (hy:=fun w hSw=>by (try dsimp only at hSw);have k0:=(hSw.cell (p:=⟨g,o+k,none⟩) (bV HG.out (bK _))).trans OV.out;clear hSw;go_simp;try with_reducible rfl)
      refine tk 5 ah ?_
      refine tk 6 ah ?_ (hy:=fun w hSw=>by (try dsimp only at hSw);have k0:=V0.out.hat hSw 4 rfl;clear hSw;go_simp;try with_reducible rfl)
      refine tk 7 ah ?_
      refine tk 8 ah ?_
      refine tk 9 ah ?_
      refine tn 10 ah ?_
      refine tn 11 ah ?_
      refine tn 12 ah ?_
      refine tn 13 ah ?_
      refine tn 14 ah ?_
      refine tn 15 ah ?_
      refine tn 16 ah ?_
      refine tn 17 ah ?_
      refine tn 18 ah ?_
      refine tn 19 ah ?_
      refine tn 20 ah ?_
      refine tn 21 ah ?_
      refine tn 22 ah ?_
      refine tn 23 ah ?_
      refine tk 24 ah ?_
      refine dQ ?_
      have HF:=aj ah
      clear ah
      have R5:=aj (uq.out.trans (HF.out.mono (eH hz1 hsz)))
      clear HF
      have HV:=aj (show ¬vo C now ((x0,x1),x2,x3,x4,x5,x6,(x7,x8),x9,x10,aR,aW,M) from fun h=>Jo HNM.out (h.2.2.1 _ (List.mem_of_getElem? HX.out)))
      go_wp2
      go_ret
      exact aA HV.out R5.out
     ·have hge:decide ((N.length:Int)≤(m:Int))=false:=dU (by omega)
      have hge':decide (N.length≤m)=false:=dU (by omega)
      have hmc:m<C.length:=by have:=Xt.out;omega
      have hmc1:(m:Int)<(C.length:Int):=by omega
      obtain ⟨x,hxc⟩:=aL hmc
      have HXC:=aj hxc
      obtain ⟨gc,oc,us2,rfl,hgc,huc,hrc⟩:=(aC (aY ak) HC1.out hB).at_ hxc
      obtain ⟨a1,c1,rfl,um⟩:=hrc
      have ec:wr.cell? ⟨gc,oc+m,none⟩=some (.slice a1 x.length c1):=by simpa [jQ] using huc 0 _ rfl
      have HEC:=aj ec
      have HGC:=aj hgc
      have HKX:=aj um
      clear hB hu hx hg e0 hmn hxc hgc huc um ec
      go_upto_region 6 with fail
      refine dW (S:=(fun V=>Below (wr).heap.size (wr) V)) (by kernel_rfl) ((aU _ _).drew) (fun ah=>?_)
      refine tk 0 ah ?_
      refine tk 1 ah ?_ (hy:=fun w hSw=>by (try dsimp only at hSw);have k0:=V1.out.hat hSw 13 rfl;clear hSw;go_simp;try with_reducible rfl)
      refine tk 2 ah ?_
      refine tk 3 ah ?_
      refine tk 4 ah ?_ (hy:=fun w hSw=>by (try dsimp only at hSw);have k0:=(hSw.cell (p:=⟨g,o+k,none⟩) (bV HG.out (bK _))).trans OV.out;clear hSw;go_simp;try with_reducible rfl)
      refine tk 5 ah ?_
      refine tk 6 ah ?_ (hy:=fun w hSw=>by (try dsimp only at hSw);have k0:=V0.out.hat hSw 4 rfl;clear hSw;go_simp;try with_reducible rfl)
      refine tk 7 ah ?_
      refine tk 8 ah ?_
      refine tk 9 ah ?_
      refine tk 10 ah ?_
      refine tk 11 ah ?_
      refine tk 12 ah ?_ (hy:=fun w hSw=>by (try dsimp only at hSw);have k0:=V0.out.hat hSw 0 rfl;clear hSw;go_simp;try with_reducible rfl)
      refine tk 13 ah ?_
      refine tk 14 ah ?_ (hy:=fun w hSw=>by (try dsimp only at hSw);have k0:=V1.out.hat hSw 13 rfl;clear hSw;go_simp;try with_reducible rfl)
      refine tk 15 ah ?_
      refine tk 16 ah ?_
      refine tk 17 ah ?_ (hy:=fun w hSw=>by (try dsimp only at hSw);have k0:=(hSw.cell (p:=⟨g,o+k,none⟩) (bV HG.out (bK _))).trans OV.out;clear hSw;go_simp;try with_reducible rfl)
      refine tk 18 ah ?_
      refine tk 19 ah ?_ (hy:=fun w hSw=>by (try dsimp only at hSw);have k0:=(hSw.cell (p:=⟨gc,oc+m,none⟩) HGC.out).trans HEC.out;clear hSw;go_simp;try with_reducible rfl)
      refine tk 20 ah ?_
      refine tk 21 ah ?_ (hy:=fun w hSw=>by (try dsimp only at hSw);have k0:=V1.out.hat hSw 0 rfl;have k1:=V1.out.hat hSw 1 rfl;clear hSw;go_simp;try with_reducible rfl)
      refine cZ 22 (fun K hK=>?_)
      go_simp
      go_at_call 103
      refine (dV (aC ak HKX.out ah)).mono ?_
      intro e w4 h
      obtain ⟨q,rfl,hq2,hb⟩:=bA h
      have HQq:=aj hq2
      clear h hq2
      refine hK.out _ _ (ah.trans (hb.mono ah.size)) (fun ah=>?_)
      clear hK K hb
      refine tk 23 ah ?_
      refine tk 24 ah ?_
      refine dQ ?_
      have HF:=aj ah
      clear ah
      have HB3:=aj (HB.out.trans (HF.out.mono hsz))
      have R5:=aj (uq.out.trans (HF.out.mono (eH hz1 hsz)))
      clear HF
      rcases rV q HQq.out with ⟨hq,hm⟩ | ⟨hq,hm⟩
      ·have HA2:=aj (show ∀ (j:Nat) n,j<k+1→M[j]? = some n→n∈gI C (x0,x1) from fun j n hj hn=>by
        by_cases e:j=k
        ·subst e
         rw [HX.out] at hn;cases hn
         exact (BZ HXC.out).2 hm
        ·exact HA.out j n (by omega) hn)
       clear hm
       subst hq
       clear v13
       go_wp2
       go_roundw
       case rel=>exact ⟨k+1,by omega,by go_num,HA2,HB3.out⟩
       case measure=>simp [intOf];omega
      ·have HMM:=aj hm
       clear hm
       subst hq
       have HV:=aj (show ¬vo C now ((x0,x1),x2,x3,x4,x5,x6,(x7,x8),x9,x10,aR,aW,M) from fun h=>HMM.out ((BZ HXC.out).1 (h.2.2.1 _ (List.mem_of_getElem? HX.out))))
       go_wp2
       go_ret
       exact aA HV.out R5.out
    ·have hdl:decide ((k:Int)<(M.length:Int))=false:=dU (by omega)
     obtain rfl:k=M.length:=by omega
     have HALL:=aj (show ∀ n∈M,n∈gI C (x0,x1) from fun n hn=>by
      obtain ⟨j,hj,rfl⟩:=List.mem_iff_getElem.1 hn
      exact HA.out j _ hj (List.getElem?_eq_getElem hj))
     have Us:=aj (show pI now ((x0,x1),x2,x3,x4,x5,x6,(x7,x8),x9,x10,aR,aW,M)→vo C now ((x0,x1),x2,x3,x4,x5,x6,(x7,x8),x9,x10,aR,aW,M) from fun h=>⟨by show x4≤(((gI C (x0,x1)).length:Nat):Int);rw [HK.out];exact JN.out,HK2.out,HALL.out,h⟩)
     have v7:=V0.out.at_ 7 rfl
     have v11:=V1.out.at_ 11 rfl
     have v12:=V1.out.at_ 12 rfl
     have hw40:IntKind.i64.wrap (now+40)=now+40:=gJ _ (by omega)
     clear hB HA
     by_cases hs2:aR=2
     ·have hs2':(aR==2)=true:=beq_iff_eq.2 hs2
      have SL:=aj (Bz (now:=now) (x:=((x0,x1),x2,x3,x4,x5,x6,(x7,x8),x9,x10,aR,aW,M)) hs2)
      obtain ⟨b3,h3⟩:∃ b,decide (aW≤now)=b:=⟨_,rfl⟩
      obtain ⟨b4,h4⟩:∃ b,decide (now<aW+1+x5)=b:=⟨_,rfl⟩
      clear hs2
      go_upto_region 9 with fail
      clear v7 v11 v12 v13
      cases b3 with
      | false=>
       refine dW (S:=(fun V=>Below (wr).heap.size (wr) V)) (by kernel_rfl) ((aU _ _).drew) (fun ah=>?_)
       refine tk 0 ah ?_
       refine tk 1 ah ?_ (hy:=fun w hSw=>by (try dsimp only at hSw);have k0:=V1.out.hat hSw 12 rfl;clear hSw;go_simp;try with_reducible rfl)
       refine tk 2 ah ?_
       refine tk 3 ah ?_ (hy:=fun w hSw=>by (try dsimp only at hSw);have k0:=V0.out.hat hSw 7 rfl;clear hSw;go_simp;try with_reducible rfl)
       refine tk 4 ah ?_
       refine tk 5 ah ?_
       refine tn 6 ah ?_
       refine tn 7 ah ?_
       refine tn 8 ah ?_
       refine tn 9 ah ?_
       refine tn 10 ah ?_
       refine tk 11 ah ?_
       refine tk 12 ah ?_
       refine dQ ?_
       have HF:=aj ah
       clear ah
       have R5:=aj (uq.out.trans (HF.out.mono (eH hz1 hsz)))
       clear HF
       have HV:=aj (show ¬vo C now ((x0,x1),x2,x3,x4,x5,x6,(x7,x8),x9,x10,aR,aW,M) from fun h=>by have h5:=(SL.out.1 h.2.2.2).1;have h6:=of_decide_eq_false h3;simp only [jY] at h5;omega)
       go_wp2
       go_ret
       exact aA HV.out R5.out
      | true=>
       cases b4 with
       | false=>
        refine dW (S:=(fun V=>Below (wr).heap.size (wr) V)) (by kernel_rfl) ((aU _ _).drew) (fun ah=>?_)
        refine tk 0 ah ?_
        refine tk 1 ah ?_ (hy:=fun w hSw=>by (try dsimp only at hSw);have k0:=V1.out.hat hSw 12 rfl;clear hSw;go_simp;try with_reducible rfl)
        refine tk 2 ah ?_
        refine tk 3 ah ?_ (hy:=fun w hSw=>by (try dsimp only at hSw);have k0:=V0.out.hat hSw 7 rfl;clear hSw;go_simp;try with_reducible rfl)
        refine tk 4 ah ?_
        refine tk 5 ah ?_
        refine tk 6 ah ?_
        refine tk 7 ah ?_ (hy:=fun w hSw=>by (try dsimp only at hSw);have k0:=V0.out.hat hSw 7 rfl;clear hSw;go_simp;try with_reducible rfl)
        refine tk 8 ah ?_ (hy:=fun w hSw=>by (try dsimp only at hSw);have k0:=V1.out.hat hSw 0 rfl;have k1:=V1.out.hat hSw 1 rfl;have k2:=V1.out.hat hSw 2 rfl;have k3:=V1.out.hat hSw 3 rfl;have k4:=V1.out.hat hSw 4 rfl;have k5:=V1.out.hat hSw 5 rfl;have k6:=V1.out.hat hSw 6 rfl;have k7:=V1.out.hat hSw 7 rfl;have k8:=V1.out.hat hSw 8 rfl;have k9:=V1.out.hat hSw 9 rfl;have k10:=V1.out.hat hSw 10 rfl;have k11:=V1.out.hat hSw 11 rfl;have k12:=V1.out.hat hSw 12 rfl;have k13:=V1.out.hat hSw 13 rfl;clear hSw;go_simp;try with_reducible rfl)
        refine cZ 9 (fun K hK=>?_)
        go_simp
        go_at_call 166
        refine (BR hst hlg).mono ?_
        intro e w5 h
        obtain ⟨rfl,hb⟩:=iB h
        clear h
        refine hK.out _ _ (ah.trans (hb.mono ah.size)) (fun ah=>?_)
        clear hK K hb
        refine tk 10 ah ?_
        refine tk 11 ah ?_
        refine tk 12 ah ?_
        refine dQ ?_
        have HF:=aj ah
        clear ah
        have R5:=aj (uq.out.trans (HF.out.mono (eH hz1 hsz)))
        clear HF
        have HV:=aj (show ¬vo C now ((x0,x1),x2,x3,x4,x5,x6,(x7,x8),x9,x10,aR,aW,M) from fun h=>by have h5:=(SL.out.1 h.2.2.2).2;have h6:=of_decide_eq_false h4;simp only [endT,jY,Dl] at h5;omega)
        go_wp2
        go_ret
        exact aA HV.out R5.out
       | true=>
        refine dW (S:=(fun V=>Below (wr).heap.size (wr) V)) (by kernel_rfl) ((aU _ _).drew) (fun ah=>?_)
        refine tk 0 ah ?_
        refine tk 1 ah ?_ (hy:=fun w hSw=>by (try dsimp only at hSw);have k0:=V1.out.hat hSw 12 rfl;clear hSw;go_simp;try with_reducible rfl)
        refine tk 2 ah ?_
        refine tk 3 ah ?_ (hy:=fun w hSw=>by (try dsimp only at hSw);have k0:=V0.out.hat hSw 7 rfl;clear hSw;go_simp;try with_reducible rfl)
        refine tk 4 ah ?_
        refine tk 5 ah ?_
        refine tk 6 ah ?_
        refine tk 7 ah ?_ (hy:=fun w hSw=>by (try dsimp only at hSw);have k0:=V0.out.hat hSw 7 rfl;clear hSw;go_simp;try with_reducible rfl)
        refine tk 8 ah ?_ (hy:=fun w hSw=>by (try dsimp only at hSw);have k0:=V1.out.hat hSw 0 rfl;have k1:=V1.out.hat hSw 1 rfl;have k2:=V1.out.hat hSw 2 rfl;have k3:=V1.out.hat hSw 3 rfl;have k4:=V1.out.hat hSw 4 rfl;have k5:=V1.out.hat hSw 5 rfl;have k6:=V1.out.hat hSw 6 rfl;have k7:=V1.out.hat hSw 7 rfl;have k8:=V1.out.hat hSw 8 rfl;have k9:=V1.out.hat hSw 9 rfl;have k10:=V1.out.hat hSw 10 rfl;have k11:=V1.out.hat hSw 11 rfl;have k12:=V1.out.hat hSw 12 rfl;have k13:=V1.out.hat hSw 13 rfl;clear hSw;go_simp;try with_reducible rfl)
        refine cZ 9 (fun K hK=>?_)
        go_simp
        go_at_call 166
        refine (BR hst hlg).mono ?_
        intro e w5 h
        obtain ⟨rfl,hb⟩:=iB h
        clear h
        refine hK.out _ _ (ah.trans (hb.mono ah.size)) (fun ah=>?_)
        clear hK K hb
        refine tk 10 ah ?_
        refine tk 11 ah ?_
        refine tk 12 ah ?_
        refine dQ ?_
        have HF:=aj ah
        clear ah
        have R5:=aj (uq.out.trans (HF.out.mono (eH hz1 hsz)))
        clear HF
        have HV:=aj (show vo C now ((x0,x1),x2,x3,x4,x5,x6,(x7,x8),x9,x10,aR,aW,M) from Us.out (SL.out.2 ⟨of_decide_eq_true h3,of_decide_eq_true h4⟩))
        go_wp2
        go_ret
        exact bO HV.out R5.out
     ·have hs2':(aR==2)=false:=beq_eq_false_iff_ne.2 hs2
      by_cases hl0:M.length=0
      ·have hl0':((M.length:Int)==0)=true:=beq_iff_eq.2 (by omega)
       have HV:=aj (show vo C now ((x0,x1),x2,x3,x4,x5,x6,(x7,x8),x9,x10,aR,aW,M) from Us.out (yF hs2 hl0))
       clear hs2 hl0
       go_wp2
       go_ret
       exact bO HV.out uq.out
      ·have hl0':((M.length:Int)==0)=false:=beq_eq_false_iff_ne.2 (by omega)
       have HW:=aj (yE (now:=now) (x:=((x0,x1),x2,x3,x4,x5,x6,(x7,x8),x9,x10,aR,aW,M)) hs2 hl0)
       obtain ⟨b3,h3⟩:∃ b,decide (now<aW)=b:=⟨_,rfl⟩
       obtain ⟨b4,h4⟩:∃ b,decide (aW≤now+40)=b:=⟨_,rfl⟩
       clear hs2 hl0
       cases b3 with
       | false=>
        have HV:=aj (show ¬vo C now ((x0,x1),x2,x3,x4,x5,x6,(x7,x8),x9,x10,aR,aW,M) from fun h=>by have h5:=(HW.out.1 h.2.2.2).1;have h6:=of_decide_eq_false h3;simp only [jY] at h5;omega)
        go_wp2
        go_ret
        exact aA HV.out uq.out
       | true=>
        have HV:=aj (show b4=true↔vo C now ((x0,x1),x2,x3,x4,x5,x6,(x7,x8),x9,x10,aR,aW,M) from by
         rw [←h4,decide_eq_true_eq]
         exact ⟨fun h=>Us.out (HW.out.2 ⟨of_decide_eq_true h3,h⟩),fun h=>(HW.out.1 h.2.2.2).2⟩)
        go_wp2
        go_ret
        exact ⟨b4,rfl,HV.out,uq.out⟩
end
end Go.Proofs.YtlhfiapfncikdaaGreatDoor.aP
